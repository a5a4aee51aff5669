import Derived.Test.YtabgbmfcbobamaaGreatDoorJ28
import Derived.Test.YtabgbmfcbobamaaGreatDoorJ33
import Derived.Deep.RegionHeldLaw
set_option maxRecDepth 100000
set_option maxHeartbeats 4000000
namespace Go.Proofs.YtabgbmfcbobamaaGreatDoor
open Go.RowKit Tryz
def pM (c:vB) (now:Int) (b:List dA) (d:ByteArray) (x:jD):Nat×List dA×ByteArray:=
 if (pA x.labs).2.1≠0 then((pA x.labs).2.1,b,ByteArray.empty)
 else if ZP x.bits=true then(6,b,ByteArray.empty)
 else if (iF c now b d (gG (pA x.labs).1)).2.2=1\/(iF c now b d (gG (pA x.labs).1)).2.2=2 then((iF c now b d (gG (pA x.labs).1)).2.2,(iF c now b d (gG (pA x.labs).1)).2.1,gG (pA x.labs).1)
 else((iF c now b d (gG (pA x.labs).1)).2.2,b,ByteArray.empty)
theorem lr {d:List mA}:∀l∈(pA d).1,l∈d:=by
 intro l b;unfold pA at b;repeat' split at b
 all_goals first
  |(have:=(iK d []).mem_iff.1 b;simp[jK]at this;exact this.1)
  |exact absurd b (by simp)
theorem DF {ls:List mA}:(pA ls).1.length<=ls.length:=by
 unfold pA;repeat' split
 all_goals first|exact La _|(rw[nZ];exact DQ ls)
theorem UG {x y : List mA} (h : x.Perm y) : wB x = wB y := by
  induction h with
  | nil => rfl
  | cons _ _ ih => simp [wB, ih]
  | swap => simp [wB]; omega
  | trans _ _ h1 h2 => exact h1.trans h2
theorem ew (b:List mA):wB (jK b)<=wB b:=by
 unfold jK;induction b with
 |nil=>exact Ka _
 |cons l r d=>rw[Sd];split<;>simp only[wB]<;>omega
theorem bZ (b:List mA):wB (pA b).1<=wB b:=by
 unfold pA;repeat' split
 all_goals first|exact La _|(rw[UG (iK b [])];exact ew b)
theorem DT (b:List mA):(gG b).size<=1+3*b.length+wB b:=by
 unfold gG;split
 ·rw[nI,Ga,iA,tI];omega
 ·exact La _
structure JP (w W:World) (c:vB) (now:Int) (a:Option Addr) (n cap:Nat) (la:Option Addr) (k lc:Nat) (bi:Int):Prop where
 C:eA W w.heap.size #[.int .i64 c.w,.int .i64 c.tl,.int .i64 c.ml,.int .i64 c.sh,.int .i64 c.ha,.int .i64 c.sg] 33
 S:eA W (w.heap.size+1) #[.int .i64 now,.slice a n cap] 51
 X:eA W (w.heap.size+1+1) #[.slice la k lc,.int .i64 bi] 126
 R:eA W (w.heap.size+1+1+1) #[.int .i64 0,.slice none 0 0] 51
 B:Below w.heap.size w W
section
variable {w W W':World} {c:vB} {now:Int} {a la:Option Addr} {n cap k lc:Nat} {bi:Int}
theorem JP.new:JP w ((((w.alloc (.cells #[.int .i64 c.w,.int .i64 c.tl,.int .i64 c.ml,.int .i64 c.sh,.int .i64 c.ha,.int .i64 c.sg] 33)).alloc (.cells #[.int .i64 now,.slice a n cap] 51)).alloc (.cells #[.slice la k lc,.int .i64 bi] 126)).alloc (.cells #[.int .i64 0,.slice none 0 0] 51)) c now a n cap la k lc bi:=by
 have b:=((eA.new (w.alloc (.cells #[.int .i64 c.w,.int .i64 c.tl,.int .i64 c.ml,.int .i64 c.sh,.int .i64 c.ha,.int .i64 c.sg] 33)) #[.int .i64 now,.slice a n cap] 51).alloc (.cells #[.slice la k lc,.int .i64 bi] 126)).alloc (.cells #[.int .i64 0,.slice none 0 0] 51);have d:=(eA.new ((w.alloc (.cells #[.int .i64 c.w,.int .i64 c.tl,.int .i64 c.ml,.int .i64 c.sh,.int .i64 c.ha,.int .i64 c.sg] 33)).alloc (.cells #[.int .i64 now,.slice a n cap] 51)) #[.slice la k lc,.int .i64 bi] 126).alloc (.cells #[.int .i64 0,.slice none 0 0] 51);have e:=eA.new (((w.alloc (.cells #[.int .i64 c.w,.int .i64 c.tl,.int .i64 c.ml,.int .i64 c.sh,.int .i64 c.ha,.int .i64 c.sg] 33)).alloc (.cells #[.int .i64 now,.slice a n cap] 51)).alloc (.cells #[.slice la k lc,.int .i64 bi] 126)) #[.int .i64 0,.slice none 0 0] 51;simp only[World.size_alloc]at b d e;exact⟨(((eA.new _ _ _).alloc _).alloc _).alloc _,b,d,e,nA (nA (nA (cA _ _) (cA _ _)) (cA _ _)) (cA _ _)⟩
theorem JP.later (h:JP w W c now a n cap la k lc bi) (b:Below W.heap.size W W'):JP w W' c now a n cap la k lc bi:=⟨h.C.later b,h.S.later b,h.X.later b,h.R.later b,nA h.B b⟩
theorem JP.cells (h:JP w W c now a n cap la k lc bi):W.cell? ⟨w.heap.size,0,none⟩=some (.int .i64 c.w)/\W.cell? ⟨w.heap.size,1,none⟩=some (.int .i64 c.tl)/\W.cell? ⟨w.heap.size,2,none⟩=some (.int .i64 c.ml)/\W.cell? ⟨w.heap.size,3,none⟩=some (.int .i64 c.sh)/\W.cell? ⟨w.heap.size,4,none⟩=some (.int .i64 c.ha)/\W.cell? ⟨w.heap.size,5,none⟩=some (.int .i64 c.sg)/\W.cell? ⟨w.heap.size+1,0,none⟩=some (.int .i64 now)/\W.cell? ⟨w.heap.size+1,1,none⟩=some (.slice a n cap)/\W.cell? ⟨w.heap.size+1+1,0,none⟩=some (.slice la k lc)/\W.cell? ⟨w.heap.size+1+1,1,none⟩=some (.int .i64 bi)/\W.cell? ⟨w.heap.size+1+1+1,0,none⟩=some (.int .i64 0)/\W.cell? ⟨w.heap.size+1+1+1,1,none⟩=some (.slice none 0 0)/\W.frozen? ⟨w.heap.size+1+1+1,0,none⟩=false/\W.frozen? ⟨w.heap.size+1+1+1,1,none⟩=false/\w.heap.size+1+1+1<W.heap.size/\w.heap.size+1<W.heap.size/\¬w.heap.size+1=W.heap.size/\¬w.heap.size+1+1+1=W.heap.size:=
 have:=aA h.R
 ⟨h.C.cell 0,h.C.cell 1,h.C.cell 2,h.C.cell 3,h.C.cell 4,h.C.cell 5,h.S.cell 0,h.S.cell 1,h.X.cell 0,h.X.cell 1,h.R.cell 0,h.R.cell 1,h.R.free 0,h.R.free 1,this,by omega,by omega,by omega⟩
end
theorem NQ (c:vB) (now:Int) (a:Option Addr) (cap:Nat) (f:List dA) (l:ByteArray) (x:jD) (la:Option Addr) (lc:Nat) (w:World) {A:Nat->Prop} (hf:aI w A a f) (hl:sC w la x.labs) (hlc:x.labs.length<=lc) (u:f.length+uA f<=1100000) (hn:l.size<=1000000) (hx:kG x<=300000) (h0:gB c now f=true):
 Calls prog 82 #[iD c,.agg #[.int .i64 now,.slice a f.length cap],.string l,.agg #[.slice la x.labs.length lc,.int .i64 x.bits]] w fun e w'=>∃b cb,e=.returned (.tuple #[.int .i64 ((pM c now f l x).1:Nat),.agg #[.int .i64 now,.slice b (pM c now f l x).2.1.length cb],.string (pM c now f l x).2.2])/\aI w' (fun g=>A g\/w.heap.size<=g) b (pM c now f l x).2.1/\Below w.heap.size w w':=by
 have hbx:kG x=x.labs.length+wB x.labs:=rfl;have hB:JC x.labs:=fun i s=>by have:=UH x.labs i s;exact⟨by omega,by omega⟩
 have t:JC (pA x.labs).1:=fun i s=>by
  obtain⟨j,hj,e⟩:=Ob (lr _ (Xa s));rw[<-e];exact hB j hj
 have hkl:=DF (ls:=x.labs);have HC:=bA (fun W (o:Below w.heap.size w W)=>bS la lc x.labs W (hl.later o) hB (by omega) hlc);have HN:=bA (fun W=>aAs x.bits W);have HK:=bA (fun W H J (h:sC W H (pA x.labs).1) (hk:(pA x.labs).1.length<=J)=>mW H J (pA x.labs).1 W h t (by omega) hk);have G:=bA (fun W (o:Below w.heap.size w W) (I:(gG (pA x.labs).1).size<=1100000)=>oY c now a cap f l (gG (pA x.labs).1) W (hf.tens.later o) u (by omega) I h0);have HF:=bA (fun W (o:Below w.heap.size w W)=>hf.lt.later o);have I:(gG (pA x.labs).1).size<=1100000:=by have:=DT (pA x.labs).1;have:=bZ x.labs;omega
 replace G:=bA (fun W o=>G.out W o I);have HV:Hid ((pA x.labs).2.1≠0/\pM c now f l x=((pA x.labs).2.1,f,ByteArray.empty)\/(pA x.labs).2.1=0/\(ZP x.bits=true/\pM c now f l x=(6,f,ByteArray.empty)\/ZP x.bits=false/\((((iF c now f l (gG (pA x.labs).1)).2.2:Nat):Int)=1/\pM c now f l x=(1,(iF c now f l (gG (pA x.labs).1)).2.1,gG (pA x.labs).1)\/((iF c now f l (gG (pA x.labs).1)).2.2:Int)=2/\pM c now f l x=(2,(iF c now f l (gG (pA x.labs).1)).2.1,gG (pA x.labs).1)\/(((iF c now f l (gG (pA x.labs).1)).2.2:Int)==1)=false/\(((iF c now f l (gG (pA x.labs).1)).2.2:Int)==2)=false/\pM c now f l x=((iF c now f l (gG (pA x.labs).1)).2.2,f,ByteArray.empty)))):=by
  show _\/_;unfold pM;by_cases z:(pA x.labs).2.1=0
  ·refine Ja ⟨z,?_⟩;rw[Oa (by simp[z])];cases ZP x.bits
   ·refine Ja ⟨rfl,?_⟩;rw[Oa (by simp)];generalize iF c now f l (gG (pA x.labs).1)=A;by_cases C:A.2.2=1
    ·exact Ca ⟨by omega,by simp[C]⟩
    by_cases q2:A.2.2=2
    ·exact Ja (Ca ⟨by omega,by simp[q2]⟩)
    ·exact Ja (Ja ⟨by simp;omega,by simp;omega,by simp[C,q2]⟩)
   ·exact Ca ⟨rfl,Qa rfl⟩
  ·exact Ca ⟨z,Qa z⟩
 have HNW:Hid ((iF c now f l (gG (pA x.labs).1)).1=now):=by
  show _=_;unfold iF;rw[Oa (by rw[h0];simp)];repeat' split
  all_goals rfl
 have P:=bA (JP.new (w:=w) (c:=c) (now:=now) (a:=a) (n:=f.length) (cap:=cap) (la:=la) (k:=x.labs.length) (lc:=lc) (bi:=x.bits));clear hf hl hB t hbx u hx h0 I;unfold OC at G;generalize pM c now f l x=V at *;generalize iF c now f l (gG (pA x.labs).1)=A at *;obtain⟨n9,d,v9⟩:=A;obtain rfl:=HNW.out;generalize gG (pA x.labs).1=ky at *;generalize ZP x.bits=nb at *;generalize x.bits=bi at *;generalize pA x.labs=CN at *;generalize x.labs=ls at *;obtain⟨fm,cd,ix⟩:=CN;dsimp only at *;unfold iD at *;go_enter func82,ntmps82;go_wp2_with fail;refine(HC.out _ P.out.B).mono ?_;rintro e w1 ⟨a1,k1,rfl,hk1,y,m⟩;replace P:=bA (P.out.later m);have L1:=bA y.labs;clear m y HC;obtain⟨K,L,M,N,O,Q,S,T,U,X,D,E,Y,Z,F,y5,y6,y7⟩:=P.out.cells;rcases HV.out with⟨z,rfl⟩|⟨rfl,⟨rfl,rfl⟩|⟨rfl,⟨C,rfl⟩|⟨C,rfl⟩|⟨C,q2,rfl⟩⟩⟩
 all_goals
  go_wp2_with(first
   |(go_at_call 123;refine(HN.out _).mono ?_;rintro e wx ⟨rfl,hw⟩;replace hw:=hw.symm;subst hw)
   |(go_at_call 124;refine(HK.out _ a1 k1 L1.out hk1).mono ?_;rintro e w2 ⟨rfl,m⟩;replace P:=bA (P.out.later m);clear m K L M N O Q S T U X D E Y Z F y5 y6 y7;obtain⟨K,L,M,N,O,Q,S,T,U,X,D,E,Y,Z,F,y5,y6,y7⟩:=P.out.cells)
   |(go_at_call 118;refine(G.out _ P.out.B).mono ?_;rintro e w3 ⟨H,J,rfl,y,m⟩;have O3:=bA (y.toN (A:=fun g=>w.heap.size+1+1+1<g) fun g h=>Ib (aA P.out.R) h);replace P:=bA (P.out.later m);clear m y K L M N O Q S T U X D E Y Z F y5 y6 y7;obtain⟨K,L,M,N,O,Q,S,T,U,X,D,E,Y,Z,F,y5,y6,y7⟩:=P.out.cells))
 all_goals have r:=bA (fun(W:World) (p q:Value)=>(((gA.refl (·=w.heap.size+1+1+1) W).setCell (Ca rfl) 0 p).setCell (Ca rfl) 1 q))
 all_goals
  go_region
  go_wp2;refine bodyPost_ret (v:=?_) (by simp[results,results82,go_sem,D,E,F];rfl) rfl ?_;first
   |exact⟨a,⟨cap,rfl⟩,((HF.out _ P.out.B).turn (r.out _ _ _) (fun g (h:A g/\g<w.heap.size) (e:g=w.heap.size+1+1+1)=>by omega)).mono (fun g h=>Ca h.1),(P.out.B.trans ((r.out _ _ _).below P.out.B.size fun i s e=>by omega)).drew⟩
   |exact⟨H,⟨J,rfl⟩,((O3.out.turn (r.out _ _ _) (fun g (h:w.heap.size+1+1+1<g) (e:g=w.heap.size+1+1+1)=>by omega)).mono (fun g (h:w.heap.size+1+1+1<g)=>Ja (by omega))).later ((cA _ _).drew),(nA (P.out.B.trans ((r.out _ _ _).below P.out.B.size fun i s e=>by omega)) (cA _ _)).drew⟩
   |exact⟨a,⟨cap,rfl⟩,(((HF.out _ P.out.B).turn (r.out _ _ _) (fun g (h:A g/\g<w.heap.size) (e:g=w.heap.size+1+1+1)=>by omega)).mono (fun g h=>Ca h.1)).later ((cA _ _).drew),(nA (P.out.B.trans ((r.out _ _ _).below P.out.B.size fun i s e=>by omega)) (cA _ _)).drew⟩
theorem aEi:(prog.info? 126).map (fun i=>(i.zero,i.size,i.bytes))=some (some (.agg #[.slice none 0 0,.int .i64 0]),2,32):=by kernel_rfl
def aDe (w a:World) (B P N:Nat) (e:Ending):Prop:=∃q:QV,e=.returned q.val/\dV.part a w.heap.size a.heap.size q/\kB a B P N/\dB B w a
theorem LJ {w:World} {c b:Nat} {q:QV} (h:q.ys=[]) (a:q.good):dV.part w c b q:=⟨Ca h,a⟩
theorem yW {k b:Int} {t m:ByteArray} {d:List XV} {a:Option Addr} {c:Nat} (f:1<=k/\k<=6) (j:t.size<=16) (g:m.size<=16) (i : -100<=b/\b<=100) (l:d.length<=5) (e:aCw k b t m d:=by refine⟨?_,?_,?_,?_⟩<;>intro h<;>first|rfl|exact absurd h (by decide)):QV.good ⟨k,t,m,b,d,a,c⟩:=⟨f,j,g,i,l,e⟩
theorem XL (B P N:Nat) (w:World) (h:kB w B P N) (hN:N<=50000):
 Calls prog 35 #[.pointer (some ⟨B,0,none⟩)] w fun e w'=>aDe w w' B P (N+1200) e:=by
 have HC:Hid (kB w B P N):=h;have hlt:=h.lt;have C:=h.up.2;have hZ:w.heap.size<=w.heap.size:=Ka _;clear h;obtain⟨i0,hi0,hz0,hz1,hz2⟩:=info_parts aEi;go_enter func35,ntmps35;go_wp2_with fail;refine(cB B P N 12 _ (HC.out.later (cA _ _)) (by omega) (by omega) (by omega)).mono ?_;rintro e w1 ⟨sw,hsw,rfl,hc1,hb1⟩;have hby:eA (w.alloc (.cells #[.int .i64 0,.string ⟨#[]⟩,.string ⟨#[]⟩,.int .i64 0,.slice none 0 0] 44)) w.heap.size #[.int .i64 0,.string ⟨#[]⟩,.string ⟨#[]⟩,.int .i64 0,.slice none 0 0] 44:=heap_alloc_new _ _;have M:Hid (eA w1 w.heap.size #[.int .i64 0,.string ⟨#[]⟩,.string ⟨#[]⟩,.int .i64 0,.slice none 0 0] 44):=(hb1.block _ (aA hby) (by omega)).trans hby;have H1:Hid (kB w1 B P (N+1)/\dB B w w1):=⟨hc1,(dB.of (cA _ _)).trans hb1⟩
 clear hc1 hb1 HC hby;have hcase:sw=0\/sw=1\/sw=2\/sw=3\/sw=4\/5<=sw:=by omega
 rcases hcase with rfl|rfl|rfl|rfl|rfl|h5
 ·go_wp2_with fail;refine(cB B P (N+1) 3 w1 H1.out.1 (by omega) (by omega) (by omega)).mono ?_;rintro e s ⟨v,hv,rfl,I,u⟩;have H2:Hid (kB s B P (N+2)/\dB B w s):=⟨I,H1.out.2.trans u⟩
  have A:Hid (eA s w.heap.size #[.int .i64 0,.string ⟨#[]⟩,.string ⟨#[]⟩,.int .i64 0,.slice none 0 0] 44):=(u.block _ (by have:=aA M.out;simpa using this) (by omega)).trans (M.out);clear I u H1 M;have r0:=A.out.cell 0;have s0:=A.out.free 0;have r1:=A.out.cell 1;have s1:=A.out.free 1;have r2:=A.out.cell 2;have s2:=A.out.free 2;have r3:=A.out.cell 3;have s3:=A.out.free 3;have r4:=A.out.cell 4;have s4:=A.out.free 4;go_wp2;refine bodyPost_ret (v:=.agg #[.int .i64 2,.string ⟨#[]⟩,.string ⟨#[]⟩,.int .i64 (1+v),.slice none 0 0]) (by simp[results,results35,go_sem,r0,r1,r2,r3,r4]) rfl ?_;refine⟨⟨2,⟨#[]⟩,⟨#[]⟩,1+v,[],none,0⟩,rfl,LJ rfl (yW ⟨by omega,by omega⟩ (by decide) (by decide) ⟨by omega,by omega⟩ (by simp)),(H2.out.1.below ?_).mono (by omega),H2.out.2.below_to ?_⟩
  ·repeat (with_reducible first|exact Below.refl _ _|exact C|exact hZ|refine Below.setCell ?_ ?_ _)
  ·repeat (with_reducible first|exact Below.refl _ _|exact C|exact hZ|refine Below.setCell ?_ ?_ _)
 ·go_wp2_with fail;refine(cH B P (N+1) w1 H1.out.1 (by omega)).mono ?_;rintro e s ⟨y,htn,rfl,I,u⟩;have H2:Hid (kB s B P (N+2)/\dB B w s):=⟨I,H1.out.2.trans u⟩
  have A:Hid (eA s w.heap.size #[.int .i64 0,.string ⟨#[]⟩,.string ⟨#[]⟩,.int .i64 0,.slice none 0 0] 44):=(u.block _ (by have:=aA M.out;simpa using this) (by omega)).trans (M.out);have hR2:w.heap.size<s.heap.size:=aA A.out;have L:w.heap.size<=s.heap.size:=by omega
  clear I u H1 M;go_wp2_with fail;refine(rP B P (N+2) _ (H2.out.1.later (cA _ _)) (by omega)).mono ?_;rintro e w3 ⟨mt,hmt,rfl,hc3,H⟩;have S:eA (s.alloc (.cells #[.int .i64 3,.string y,.string ⟨#[]⟩,.int .i64 0,.slice none 0 0] 44)) s.heap.size #[.int .i64 3,.string y,.string ⟨#[]⟩,.int .i64 0,.slice none 0 0] 44:=heap_alloc_new _ _;have X3:Hid (eA w3 s.heap.size #[.int .i64 3,.string y,.string ⟨#[]⟩,.int .i64 0,.slice none 0 0] 44):=(H.block _ (aA S) (by omega)).trans S;have H3:Hid (kB w3 B P (N+3)/\dB B w w3):=⟨hc3,(H2.out.2.later (cA _ _)).trans H⟩
  have Y3:Hid (eA w3 w.heap.size #[.int .i64 0,.string ⟨#[]⟩,.string ⟨#[]⟩,.int .i64 0,.slice none 0 0] 44):=(H.block _ (by simp;omega) (by omega)).trans (A.out.alloc _);clear hc3 H S H2 A;have c2:=X3.out.cell 2;have b:=X3.out.free 2;go_wp2_with fail;refine(cB B P (N+3) 8 _ (H3.out.1.below ((Below.refl _ _).setCell (by show P<=s.heap.size;omega) _)) (by omega) (by omega) (by omega)).mono ?_;rintro e j ⟨v,hv,rfl,hc4,hb4⟩;have hx4:=eA.set X3.out 2 (.string mt);have X4:Hid (eA j s.heap.size #[.int .i64 3,.string y,.string mt,.int .i64 0,.slice none 0 0] 44):=(hb4.block _ (aA hx4) (by omega)).trans hx4;have H4:Hid (kB j B P (N+4)/\dB B w j):=⟨hc4,(H3.out.2.below_to ((Below.refl _ _).setCell L _)).trans hb4⟩
  have Y4:Hid (eA j w.heap.size #[.int .i64 0,.string ⟨#[]⟩,.string ⟨#[]⟩,.int .i64 0,.slice none 0 0] 44):=(hb4.block _ (by have:=aA Y3.out;simpa using this) (by omega)).trans (Y3.out.keepS (by omega) _);clear hc4 hb4 hx4 H3 X3 c2 b Y3;have c0:=X4.out.cell 0;have c1:=X4.out.cell 1;have c2:=X4.out.cell 2;have c3:=X4.out.cell 3;have c4:=X4.out.cell 4;have c:=X4.out.free 3;have r0:=Y4.out.cell 0;have s0:=Y4.out.free 0;have r1:=Y4.out.cell 1;have s1:=Y4.out.free 1;have r2:=Y4.out.cell 2;have s2:=Y4.out.free 2;have r3:=Y4.out.cell 3;have s3:=Y4.out.free 3;have r4:=Y4.out.cell 4;have s4:=Y4.out.free 4;have hP1:P<=s.heap.size:=by omega
  go_wp2;refine bodyPost_ret (v:=.agg #[.int .i64 3,.string y,.string mt,.int .i64 (v-1),.slice none 0 0]) (by simp[results,results35,go_sem,r0,r1,r2,r3,r4]) rfl ?_;refine⟨⟨3,y,mt,v-1,[],none,0⟩,rfl,LJ rfl (yW ⟨by omega,by omega⟩ htn hmt ⟨by omega,by omega⟩ (by simp)),(H4.out.1.below ?_).mono (by omega),H4.out.2.below_to ?_⟩
  ·repeat (with_reducible first|exact Below.refl _ _|exact C|exact hP1|exact hZ|exact L|refine Below.setCell ?_ ?_ _)
  ·repeat (with_reducible first|exact Below.refl _ _|exact C|exact hP1|exact hZ|exact L|refine Below.setCell ?_ ?_ _)
 ·have r0:=M.out.cell 0;have s0:=M.out.free 0;have r1:=M.out.cell 1;have s1:=M.out.free 1;have r2:=M.out.cell 2;have s2:=M.out.free 2;have r3:=M.out.cell 3;have s3:=M.out.free 3;have r4:=M.out.cell 4;have s4:=M.out.free 4;go_wp2;refine bodyPost_ret (v:=.agg #[.int .i64 4,.string ⟨#[]⟩,.string ⟨#[]⟩,.int .i64 0,.slice none 0 0]) (by simp[results,results35,go_sem,r0,r1,r2,r3,r4]) rfl ?_;refine⟨⟨4,⟨#[]⟩,⟨#[]⟩,0,[],none,0⟩,rfl,LJ rfl (yW ⟨by omega,by omega⟩ (by decide) (by decide) ⟨by omega,by omega⟩ (by simp)),(H1.out.1.below ?_).mono (by omega),H1.out.2.below_to ?_⟩
  ·repeat (with_reducible first|exact Below.refl _ _|exact C|exact hZ|refine Below.setCell ?_ ?_ _)
  ·repeat (with_reducible first|exact Below.refl _ _|exact C|exact hZ|refine Below.setCell ?_ ?_ _)
 ·go_wp2_with fail;refine(cH B P (N+1) w1 H1.out.1 (by omega)).mono ?_;rintro e s ⟨y,htn,rfl,I,u⟩;have H2:Hid (kB s B P (N+2)/\dB B w s):=⟨I,H1.out.2.trans u⟩
  have A:Hid (eA s w.heap.size #[.int .i64 0,.string ⟨#[]⟩,.string ⟨#[]⟩,.int .i64 0,.slice none 0 0] 44):=(u.block _ (by have:=aA M.out;simpa using this) (by omega)).trans (M.out);have hR2:w.heap.size<s.heap.size:=aA A.out;have L:w.heap.size<=s.heap.size:=by omega
  clear I u H1 M;go_wp2_with fail;refine(rP B P (N+2) _ (H2.out.1.later (cA _ _)) (by omega)).mono ?_;rintro e w3 ⟨mt,hmt,rfl,hc3,H⟩;have S:eA (s.alloc (.cells #[.int .i64 5,.string y,.string ⟨#[]⟩,.int .i64 0,.slice none 0 0] 44)) s.heap.size #[.int .i64 5,.string y,.string ⟨#[]⟩,.int .i64 0,.slice none 0 0] 44:=heap_alloc_new _ _;have X3:Hid (eA w3 s.heap.size #[.int .i64 5,.string y,.string ⟨#[]⟩,.int .i64 0,.slice none 0 0] 44):=(H.block _ (aA S) (by omega)).trans S;have H3:Hid (kB w3 B P (N+3)/\dB B w w3):=⟨hc3,(H2.out.2.later (cA _ _)).trans H⟩
  have Y3:Hid (eA w3 w.heap.size #[.int .i64 0,.string ⟨#[]⟩,.string ⟨#[]⟩,.int .i64 0,.slice none 0 0] 44):=(H.block _ (by simp;omega) (by omega)).trans (A.out.alloc _);clear hc3 H S H2 A;have c0:=X3.out.cell 0;have c1:=X3.out.cell 1;have c2:=X3.out.cell 2;have c3:=X3.out.cell 3;have c4:=X3.out.cell 4;have b:=X3.out.free 2;have r0:=Y3.out.cell 0;have s0:=Y3.out.free 0;have r1:=Y3.out.cell 1;have s1:=Y3.out.free 1;have r2:=Y3.out.cell 2;have s2:=Y3.out.free 2;have r3:=Y3.out.cell 3;have s3:=Y3.out.free 3;have r4:=Y3.out.cell 4;have s4:=Y3.out.free 4;have hP1:P<=s.heap.size:=by omega
  go_wp2;refine bodyPost_ret (v:=.agg #[.int .i64 5,.string y,.string mt,.int .i64 0,.slice none 0 0]) (by simp[results,results35,go_sem,r0,r1,r2,r3,r4]) rfl ?_;refine⟨⟨5,y,mt,0,[],none,0⟩,rfl,LJ rfl (yW ⟨by omega,by omega⟩ htn hmt ⟨by omega,by omega⟩ (by simp)),(H3.out.1.below ?_).mono (by omega),H3.out.2.below_to ?_⟩
  ·repeat (with_reducible first|exact Below.refl _ _|exact C|exact hP1|exact hZ|exact L|refine Below.setCell ?_ ?_ _)
  ·repeat (with_reducible first|exact Below.refl _ _|exact C|exact hP1|exact hZ|exact L|refine Below.setCell ?_ ?_ _)
 ·go_wp2_with fail;refine(cH B P (N+1) w1 H1.out.1 (by omega)).mono ?_;rintro e s ⟨y,htn,rfl,I,u⟩;have H2:Hid (kB s B P (N+2)/\dB B w s):=⟨I,H1.out.2.trans u⟩
  have A:Hid (eA s w.heap.size #[.int .i64 0,.string ⟨#[]⟩,.string ⟨#[]⟩,.int .i64 0,.slice none 0 0] 44):=(u.block _ (by have:=aA M.out;simpa using this) (by omega)).trans (M.out);have hR2:w.heap.size<s.heap.size:=aA A.out;have L:w.heap.size<=s.heap.size:=by omega
  clear I u H1 M;have r0:=A.out.cell 0;have s0:=A.out.free 0;have r1:=A.out.cell 1;have s1:=A.out.free 1;have r2:=A.out.cell 2;have s2:=A.out.free 2;have r3:=A.out.cell 3;have s3:=A.out.free 3;have r4:=A.out.cell 4;have s4:=A.out.free 4;go_wp2;refine bodyPost_ret (v:=.agg #[.int .i64 6,.string y,.string ⟨#[]⟩,.int .i64 0,.slice none 0 0]) (by simp[results,results35,go_sem,r0,r1,r2,r3,r4]) rfl ?_;refine⟨⟨6,y,⟨#[]⟩,0,[],none,0⟩,rfl,LJ rfl (yW ⟨by omega,by omega⟩ htn (by decide) ⟨by omega,by omega⟩ (by simp)),(H2.out.1.below ?_).mono (by omega),H2.out.2.below_to ?_⟩
  ·repeat (with_reducible first|exact Below.refl _ _|exact C|exact hZ|refine Below.setCell ?_ ?_ _)
  ·repeat (with_reducible first|exact Below.refl _ _|exact C|exact hZ|refine Below.setCell ?_ ?_ _)
 ·go_wp2_with fail;refine(cH B P (N+1) w1 H1.out.1 (by omega)).mono ?_;rintro e s ⟨y,htn,rfl,I,u⟩;have H2:Hid (kB s B P (N+2)/\dB B w s):=⟨I,H1.out.2.trans u⟩
  have A:Hid (eA s w.heap.size #[.int .i64 0,.string ⟨#[]⟩,.string ⟨#[]⟩,.int .i64 0,.slice none 0 0] 44):=(u.block _ (by have:=aA M.out;simpa using this) (by omega)).trans (M.out);have hR2:w.heap.size<s.heap.size:=aA A.out;have L:w.heap.size<=s.heap.size:=by omega
  clear I u H1 M;clear h5 hsw;go_wp2_with fail;refine(cB B P (N+2) 5 _ (H2.out.1.later (cA _ _)) (by omega) (by omega) (by omega)).mono ?_;rintro e w3 ⟨nn,hnn,rfl,hc3,H⟩;have S:eA (s.alloc (.cells #[.int .i64 1,.string y,.string ⟨#[]⟩,.int .i64 0,.slice none 0 0] 44)) s.heap.size #[.int .i64 1,.string y,.string ⟨#[]⟩,.int .i64 0,.slice none 0 0] 44:=heap_alloc_new _ _;have X3:Hid (eA w3 s.heap.size #[.int .i64 1,.string y,.string ⟨#[]⟩,.int .i64 0,.slice none 0 0] 44):=(H.block _ (aA S) (by omega)).trans S;have H3:Hid (kB w3 B P (N+3)/\dB B w w3):=⟨hc3,(H2.out.2.later (cA _ _)).trans H⟩
  have Y3:Hid (eA w3 w.heap.size #[.int .i64 0,.string ⟨#[]⟩,.string ⟨#[]⟩,.int .i64 0,.slice none 0 0] 44):=(H.block _ (by simp;omega) (by omega)).trans (A.out.alloc _);clear hc3 H S H2 A;have hX3:s.heap.size<w3.heap.size:=aA X3.out;have HXG:Hid (∃X,X=s.heap.size):=⟨_,rfl⟩
  obtain⟨X,hX⟩:=HXG.out;rw[<-hX]at X3 hX3 L hR2 |-
  clear hX HXG;go_wp2;go_loopw [7,8] (fun i _ wr=>∃(k:Nat) (v:Value) (O:List XV),k<=nn+1/\i=.int .i64 (k:Nat)/\Hid (eA wr X #[.int .i64 1,.string y,.string ⟨#[]⟩,.int .i64 0,v] 44)/\Hid (eA wr w.heap.size #[.int .i64 0,.string ⟨#[]⟩,.string ⟨#[]⟩,.int .i64 0,.slice none 0 0] 44)/\Hid (wI rU wr (X+1) 126 v k O)/\Hid (kB wr B P (N+3+210*k))/\Hid (dB B w wr)/\X<wr.heap.size) (fun i _ _=>nn+1-(intOf i).toNat)
  case atStart=>exact⟨0,.slice none 0 0,[],La _,rfl,X3.out,Y3.out,wI.nil _ _ _ _,H3.out.1,H3.out.2,hX3⟩
  case round=>
   clear X3 Y3 H3;obtain⟨k,v,O,hk,rfl,HX,HY,HR,HC,HBU,hXr⟩:=hrel;by_cases hlk:k<nn+1
   ·have hlk':(k:Int)<1+(nn:Int):=by omega
    go_wp2_with fail;refine(pV B P (N+3+210*k) wr HC.out (by omega)).mono ?_;rintro e j ⟨g4,c4,ls,rfl,hl1,hl2,hsl,hrow,hc4,hb4⟩;have L4:Hid (j.ownsRow wr.heap.size 156 2 (.slice (some ⟨g4,0,none⟩) ls.length c4) ls.length (aB ls)/\uR ls):=⟨hrow,hsl⟩
    have H4:Hid (kB j B P (N+3+210*k+100)/\dB B wr j):=⟨hc4,hb4⟩
    have hs4:wr.heap.size<=j.heap.size:=hb4.size;have hg4:=hrow.lt g4 rfl;have hRr:w.heap.size<wr.heap.size:=by omega
    clear hrow hsl hc4 hb4 HC;go_wp2_with fail;refine(cB B P (N+3+210*k+100) 8 _ (H4.out.1.later (cA _ _)) (by omega) (by omega) (by omega)).mono ?_;rintro e w5 ⟨v5,hv5,rfl,hc5,hb5⟩;have hbz:eA (j.alloc (.cells #[.slice (some ⟨g4,0,none⟩) ls.length c4,.int .i64 0] 126)) j.heap.size #[.slice (some ⟨g4,0,none⟩) ls.length c4,.int .i64 0] 126:=heap_alloc_new _ _;have Z5:Hid (eA w5 j.heap.size #[.slice (some ⟨g4,0,none⟩) ls.length c4,.int .i64 0] 126):=(hb5.block _ (aA hbz) (by omega)).trans hbz;have L5:Hid (w5.ownsRow wr.heap.size 156 2 (.slice (some ⟨g4,0,none⟩) ls.length c4) ls.length (aB ls)/\uR ls):=⟨uE (vA L4.out.1 (cA _ _)) hb5 (by omega),L4.out.2⟩
    have H5:Hid (kB w5 B P (N+3+210*k+101)/\dB B wr w5):=⟨hc5,(H4.out.2.later (cA _ _)).trans hb5⟩
    have hs5:j.heap.size<w5.heap.size:=aA Z5.out;clear hc5 hb5 hbz H4 L4;by_cases h7:v5=7
    ·have h7':((v5:Nat):Int)=7:=by omega
     rw[h7'];clear h7 h7' hv5;have z0:=Z5.out.cell 0;go_wp2_with fail;refine(qm B P (N+3+210*k+101) w5 wr.heap.size g4 c4 ls H5.out.1 (by omega) L5.out.1 hl1 hl2 L5.out.2).mono ?_;rintro e w6 ⟨x,J,f,rfl,hl6,hsl6,a0,hc6,hb6⟩;have Z6:Hid (eA w6 j.heap.size #[.slice (some ⟨g4,0,none⟩) ls.length c4,.int .i64 0] 126):=(hb6.block _ hs5 (by omega)).trans Z5.out;have L6:Hid (w6.ownsRow w5.heap.size 156 2 (.slice (some ⟨x,0,none⟩) f.length J) f.length (aB f)):=a0;have H6:Hid (kB w6 B P (N+3+210*k+201)/\dB B wr w6):=⟨hc6,H5.out.2.trans hb6⟩
     have hc6':=(cG a0).1;have hgl:=a0.lt x rfl;have hg6:x≠j.heap.size:=by omega
     have hgB:x≠B:=by omega
     clear hgl;clear hc6 hb6 a0 H5 L5 Z5 z0;have z0:=Z6.out.cell 0;have y0:=Z6.out.free 0;go_wp2_with fail;refine(cB B P (N+3+210*k+201) 5 _ (H6.out.1.below ((Below.refl _ _).setCell (by show P<=j.heap.size;omega) _)) (by omega) (by omega) (by omega)).mono ?_;rintro e l ⟨v7,hv7,rfl,hc7,Y⟩;have hz7:=eA.set Z6.out 0 (.slice (some ⟨x,0,none⟩) f.length J);have Z7:Hid (eA l j.heap.size #[.slice (some ⟨x,0,none⟩) f.length J,.int .i64 0] 126):=(Y.block _ (aA hz7) (by omega)).trans hz7;have L7:Hid (gC l wr.heap.size (some ⟨x,0,none⟩) f):=rF (kX (uE (uE L6.out ((dB.refl j.heap.size w6).setCell 0 _) (by omega)) Y (by omega)) (by omega));have U:Hid (kB l B P (N+3+210*k+202)/\dB B wr l):=⟨hc7,(H6.out.2.below_to ((Below.refl _ _).setCell hs4 _)).trans Y⟩
     clear hc7 Y hz7 H6 L6 Z6 z0 y0;have n:∀q,v.ownBlock=some q->X+1<=q/\q<wr.heap.size:=fun q hq=>HR.out.lt q hq;have HO7:Hid (l.ownsRow (X+1) 126 2 v k (rU.flat O)):=(HR.out.but U.out.2 (by omega)).1;have V:Hid (eA l X #[.int .i64 1,.string y,.string ⟨#[]⟩,.int .i64 0,v] 44):=(U.out.2.block _ hXr (by omega)).trans HX.out;have HY7:Hid (eA l w.heap.size #[.int .i64 0,.string ⟨#[]⟩,.string ⟨#[]⟩,.int .i64 0,.slice none 0 0] 44):=(U.out.2.block _ hRr (by omega)).trans HY.out;by_cases h4:v7=4
     ·have h4':((v7:Nat):Int)=4:=by omega
      rw[h4'];clear h4 h4' hv7;go_wp2_with fail;refine(AQ B P (N+3+210*k+202) l U.out.1 (by omega)).mono ?_;rintro e m ⟨z,hz,rfl,hc8,Z⟩;have hs7:j.heap.size<l.heap.size:=aA Z7.out;have Z8:Hid (eA m j.heap.size #[.slice (some ⟨x,0,none⟩) f.length J,.int .i64 0] 126):=(Z.block _ hs7 (by omega)).trans Z7.out;have L8:Hid (gC m wr.heap.size (some ⟨x,0,none⟩) f):=L7.out.butS Z hgB;have H8:Hid (kB m B P (N+3+210*k+203)/\dB B wr m):=⟨hc8,U.out.2.trans Z⟩
      have hs8:j.heap.size<m.heap.size:=aA Z8.out;have HO8:Hid (m.ownsRow (X+1) 126 2 v k (rU.flat O)):=(HR.out.but H8.out.2 (by omega)).1;have HX8:Hid (eA m X #[.int .i64 1,.string y,.string ⟨#[]⟩,.int .i64 0,v] 44):=(H8.out.2.block _ hXr (by omega)).trans HX.out;have HY8:Hid (eA m w.heap.size #[.int .i64 0,.string ⟨#[]⟩,.string ⟨#[]⟩,.int .i64 0,.slice none 0 0] 44):=(H8.out.2.block _ hRr (by omega)).trans HY.out;have z0:=Z8.out.cell 0;have z1:=Z8.out.cell 1;have y1:=Z8.out.free 1;have x4:=HX8.out.cell 4;have m1:¬(X=j.heap.size):=by omega
      clear Z7 L7 U HO7 V HY7 hc8 Z;have o:Hid (dB j.heap.size m (m.setCell ⟨j.heap.size,1,none⟩ (.int .i64 z))):=((dB.refl j.heap.size m).setCell 1 _)
      have HOW:Hid ((m.setCell ⟨j.heap.size,1,none⟩ (.int .i64 z)).ownsRow (X+1) 126 2 v k (rU.flat O)):=(gA.but o.out).row HO8.out (fun g K e=>by have:=n g K;omega);have HXW:Hid (eA (m.setCell ⟨j.heap.size,1,none⟩ (.int .i64 z)) X #[.int .i64 1,.string y,.string ⟨#[]⟩,.int .i64 0,v] 44):=(o.out.block _ (by have:=aA HX8.out;omega) (by omega)).trans HX8.out;have HYW:Hid (eA (m.setCell ⟨j.heap.size,1,none⟩ (.int .i64 z)) w.heap.size #[.int .i64 0,.string ⟨#[]⟩,.string ⟨#[]⟩,.int .i64 0,.slice none 0 0] 44):=(o.out.block _ (by have:=aA HY8.out;omega) (by omega)).trans HY8.out;have HLW:Hid (gC (m.setCell ⟨j.heap.size,1,none⟩ (.int .i64 z)) wr.heap.size (some ⟨x,0,none⟩) f):=L8.out.butS o.out hg6;have hWs:(m.setCell ⟨j.heap.size,1,none⟩ (.int .i64 z)).heap.size=m.heap.size:=by simp
      go_wp2_with(at_builtin;refine wpList_append_lies _ rfl _ _ _ rfl (X+1) 126 i0 _ 2 32 underlying42 hi0 hz0 hz1 hz2 rfl (by omega) v k (rU.flat O) rfl (by exact HOW.out.alloc _) ⟨m.heap.size,0,none⟩ 1 1 [.slice (some ⟨x,0,none⟩) f.length J,.int .i64 z] rfl rfl (by have:=World.news_of_block (cs:=#[.slice (some ⟨x,0,none⟩) f.length J,.int .i64 z]) (t:=126) (fr:=(0,0)) (heap_alloc_new (m.setCell ⟨j.heap.size,1,none⟩ (.int .i64 z)) (.cells #[.slice (some ⟨x,0,none⟩) f.length J,.int .i64 z] 126));simpa using this) (by simp[Value.oneCell']) (by omega) (by simp[maxLen];omega) (by omega) (by simp;omega) (m.heap.size+1) (by simp) ?_;intro E W r G d R hlt9;have D:Hid (eA r X #[.int .i64 1,.string y,.string ⟨#[]⟩,.int .i64 0,v] 44):=(gA.grown d).blk (HXW.out.alloc _) (fun e=>by have:=n _ e;omega);have x9:=D.out.cell 4;have a:=D.out.free 4);have HY9:eA r w.heap.size #[.int .i64 0,.string ⟨#[]⟩,.string ⟨#[]⟩,.int .i64 0,.slice none 0 0] 44:=(gA.grown d).blk (HYW.out.alloc _) (fun e=>by have:=n _ e;omega);have hgg:(v.ownBlock=some E/\E<wr.heap.size)\/(m.setCell ⟨j.heap.size,1,none⟩ (.int .i64 z)).heap.size<=E:=by
       rcases R with h|h
       ·exact Ca ⟨h,(n _ h).2⟩
       ·exact Ja (by omega)
      have T:∀g,g<(m.setCell ⟨j.heap.size,1,none⟩ (.int .i64 z)).heap.size->v.ownBlock≠some g->r.heap[g]?=(m.setCell ⟨j.heap.size,1,none⟩ (.int .i64 z)).heap[g]?:=fun g K F=>by
       rw[(gA.grown d).block g (by simp;omega) F];exact(cA _ _).block g K
      have Q:Below w.heap.size m r:=(((Below.refl w.heap.size m).setCell (show w.heap.size<=j.heap.size by omega) _).alloc (by simp;omega) _).grown d (by simp;omega) (fun q hq=>by have:=n q hq;omega);have hR9:wI rU r (X+1) 126 (.slice (some ⟨E,0,none⟩) (k+1) W) (k+1) (O++[⟨⟨f,z⟩,some ⟨x,0,none⟩,J⟩]):=wI.snoc (wr:=wr) (w4:=(m.setCell ⟨j.heap.size,1,none⟩ (.int .i64 z))) (w6:=r) (v:=v) G HR.out (by omega) (by have:=Q.size;omega) (by omega)
       (fun g K hb F=>((T g (by omega) F).trans (o.out.block g (by omega) (by omega))).trans (H8.out.2.block g K (by omega)))
       (fun g K hg4=>T g hg4 (fun e=>by have:=(n _ e).2;omega))
       ⟨HLW.out.inR,⟨hl6,hc6',hsl6⟩,hz⟩ hgg
      have hT9:gA (·=X) r (r.setCell ⟨X,4,none⟩ (.slice (some ⟨E,0,none⟩) (k+1) W)):=(gA.refl (·=X) r).setCell (Ca rfl) 4 _;have p:Below w.heap.size m (r.setCell ⟨X,4,none⟩ (.slice (some ⟨E,0,none⟩) (k+1) W)):=Q.setCell L _;exact⟨⟨k+1,_,O++[⟨⟨f,z⟩,some ⟨x,0,none⟩,J⟩],by omega,by go_num,by have:=D.out.set 4 (.slice (some ⟨E,0,none⟩) (k+1) W);exact this,HY9.keepS (by omega) _,bA (hR9.turn hT9 (fun g e=>by rw[e];omega)),(H8.out.1.below (p.mono C)).mono (by omega),(HBU.out.trans H8.out.2).below_to (p.mono (by omega)),by have:=p.size;omega⟩,by simp[intOf];omega⟩
     ·have h4':¬(((v7:Nat):Int)=4):=by omega
      have z0:=Z7.out.cell 0;have z1:=Z7.out.cell 1;have x4:=V.out.cell 4;have hs7:j.heap.size<l.heap.size:=aA Z7.out;have o:Hid (dB j.heap.size l l):=(dB.refl j.heap.size l)
      have HOW:Hid (l.ownsRow (X+1) 126 2 v k (rU.flat O)):=(gA.but o.out).row HO7.out (fun g K e=>by have:=n g K;omega);have HXW:Hid (eA l X #[.int .i64 1,.string y,.string ⟨#[]⟩,.int .i64 0,v] 44):=(o.out.block _ (by have:=aA V.out;omega) (by omega)).trans V.out;have HYW:Hid (eA l w.heap.size #[.int .i64 0,.string ⟨#[]⟩,.string ⟨#[]⟩,.int .i64 0,.slice none 0 0] 44):=(o.out.block _ (by have:=aA HY7.out;omega) (by omega)).trans HY7.out;have HLW:Hid (gC l wr.heap.size (some ⟨x,0,none⟩) f):=L7.out.butS o.out hg6;have hWs:l.heap.size=l.heap.size:=by simp
      go_wp2_with(at_builtin;refine wpList_append_lies _ rfl _ _ _ rfl (X+1) 126 i0 _ 2 32 underlying42 hi0 hz0 hz1 hz2 rfl (by omega) v k (rU.flat O) rfl (by exact HOW.out.alloc _) ⟨l.heap.size,0,none⟩ 1 1 [.slice (some ⟨x,0,none⟩) f.length J,.int .i64 0] rfl rfl (by have:=World.news_of_block (cs:=#[.slice (some ⟨x,0,none⟩) f.length J,.int .i64 0]) (t:=126) (fr:=(0,0)) (heap_alloc_new l (.cells #[.slice (some ⟨x,0,none⟩) f.length J,.int .i64 0] 126));simpa using this) (by simp[Value.oneCell']) (by omega) (by simp[maxLen];omega) (by omega) (by simp;omega) (l.heap.size+1) (by simp) ?_;intro E W r G d R hlt9;have D:Hid (eA r X #[.int .i64 1,.string y,.string ⟨#[]⟩,.int .i64 0,v] 44):=(gA.grown d).blk (HXW.out.alloc _) (fun e=>by have:=n _ e;omega);have x9:=D.out.cell 4;have a:=D.out.free 4);have HY9:eA r w.heap.size #[.int .i64 0,.string ⟨#[]⟩,.string ⟨#[]⟩,.int .i64 0,.slice none 0 0] 44:=(gA.grown d).blk (HYW.out.alloc _) (fun e=>by have:=n _ e;omega);have hgg:(v.ownBlock=some E/\E<wr.heap.size)\/l.heap.size<=E:=by
       rcases R with h|h
       ·exact Ca ⟨h,(n _ h).2⟩
       ·exact Ja (by omega)
      have T:∀g,g<l.heap.size->v.ownBlock≠some g->r.heap[g]?=l.heap[g]?:=fun g K F=>by
       rw[(gA.grown d).block g (by simp;omega) F];exact(cA _ _).block g K
      have Q:Below w.heap.size l r:=((Below.refl w.heap.size l).alloc (by omega) _).grown d (by simp;omega) (fun q hq=>by have:=n q hq;omega);have hR9:wI rU r (X+1) 126 (.slice (some ⟨E,0,none⟩) (k+1) W) (k+1) (O++[⟨⟨f,0⟩,some ⟨x,0,none⟩,J⟩]):=wI.snoc (wr:=wr) (w4:=l) (w6:=r) (v:=v) G HR.out (by omega) (by have:=Q.size;omega) (by omega)
       (fun g K hb F=>((T g (by omega) F).trans (o.out.block g (by omega) (by omega))).trans (U.out.2.block g K (by omega)))
       (fun g K hg4=>T g hg4 (fun e=>by have:=(n _ e).2;omega))
       ⟨HLW.out.inR,⟨hl6,hc6',hsl6⟩,⟨by simp only;omega,by simp only;omega⟩⟩ hgg
      have hT9:gA (·=X) r (r.setCell ⟨X,4,none⟩ (.slice (some ⟨E,0,none⟩) (k+1) W)):=(gA.refl (·=X) r).setCell (Ca rfl) 4 _;have p:Below w.heap.size l (r.setCell ⟨X,4,none⟩ (.slice (some ⟨E,0,none⟩) (k+1) W)):=Q.setCell L _;exact⟨⟨k+1,_,O++[⟨⟨f,0⟩,some ⟨x,0,none⟩,J⟩],by omega,by go_num,by have:=D.out.set 4 (.slice (some ⟨E,0,none⟩) (k+1) W);exact this,HY9.keepS (by omega) _,bA (hR9.turn hT9 (fun g e=>by rw[e];omega)),(U.out.1.below (p.mono C)).mono (by omega),(HBU.out.trans U.out.2).below_to (p.mono (by omega)),by have:=p.size;omega⟩,by simp[intOf];omega⟩
    ·have h7':¬(((v5:Nat):Int)=7):=by omega
     go_wp2_with fail;refine(cB B P (N+3+210*k+101) 5 w5 H5.out.1 (by omega) (by omega) (by omega)).mono ?_;rintro e l ⟨v7,hv7,rfl,hc7,Y⟩;have hl6:ls.length<=20:=by omega
     have hsl6:=L5.out.2;have hc6':=(cG L5.out.1).1;have hg6:g4≠j.heap.size:=by omega
     have hgB:g4≠B:=by omega
     have Z7:Hid (eA l j.heap.size #[.slice (some ⟨g4,0,none⟩) ls.length c4,.int .i64 0] 126):=(Y.block _ hs5 (by omega)).trans Z5.out;have L7:Hid (gC l wr.heap.size (some ⟨g4,0,none⟩) ls):=rF (uE L5.out.1 Y (by omega));have U:Hid (kB l B P (N+3+210*k+202)/\dB B wr l):=⟨hc7.mono (by omega),H5.out.2.trans Y⟩
     clear hc7 Y H5 L5 Z5 h7 h7' hv5;obtain⟨x,J,f,e1,e2,e3⟩:∃(x J:Nat) (f:List mA),x=g4/\J=c4/\f=ls:=⟨_,_,_,rfl,rfl,rfl⟩
     subst e1 e2 e3;have n:∀q,v.ownBlock=some q->X+1<=q/\q<wr.heap.size:=fun q hq=>HR.out.lt q hq;have HO7:Hid (l.ownsRow (X+1) 126 2 v k (rU.flat O)):=(HR.out.but U.out.2 (by omega)).1;have V:Hid (eA l X #[.int .i64 1,.string y,.string ⟨#[]⟩,.int .i64 0,v] 44):=(U.out.2.block _ hXr (by omega)).trans HX.out;have HY7:Hid (eA l w.heap.size #[.int .i64 0,.string ⟨#[]⟩,.string ⟨#[]⟩,.int .i64 0,.slice none 0 0] 44):=(U.out.2.block _ hRr (by omega)).trans HY.out;by_cases h4:v7=4
     ·have h4':((v7:Nat):Int)=4:=by omega
      rw[h4'];clear h4 h4' hv7;go_wp2_with fail;refine(AQ B P (N+3+210*k+202) l U.out.1 (by omega)).mono ?_;rintro e m ⟨z,hz,rfl,hc8,Z⟩;have hs7:j.heap.size<l.heap.size:=aA Z7.out;have Z8:Hid (eA m j.heap.size #[.slice (some ⟨x,0,none⟩) f.length J,.int .i64 0] 126):=(Z.block _ hs7 (by omega)).trans Z7.out;have L8:Hid (gC m wr.heap.size (some ⟨x,0,none⟩) f):=L7.out.butS Z hgB;have H8:Hid (kB m B P (N+3+210*k+203)/\dB B wr m):=⟨hc8,U.out.2.trans Z⟩
      have hs8:j.heap.size<m.heap.size:=aA Z8.out;have HO8:Hid (m.ownsRow (X+1) 126 2 v k (rU.flat O)):=(HR.out.but H8.out.2 (by omega)).1;have HX8:Hid (eA m X #[.int .i64 1,.string y,.string ⟨#[]⟩,.int .i64 0,v] 44):=(H8.out.2.block _ hXr (by omega)).trans HX.out;have HY8:Hid (eA m w.heap.size #[.int .i64 0,.string ⟨#[]⟩,.string ⟨#[]⟩,.int .i64 0,.slice none 0 0] 44):=(H8.out.2.block _ hRr (by omega)).trans HY.out;have z0:=Z8.out.cell 0;have z1:=Z8.out.cell 1;have y1:=Z8.out.free 1;have x4:=HX8.out.cell 4;have m1:¬(X=j.heap.size):=by omega
      clear Z7 L7 U HO7 V HY7 hc8 Z;have o:Hid (dB j.heap.size m (m.setCell ⟨j.heap.size,1,none⟩ (.int .i64 z))):=((dB.refl j.heap.size m).setCell 1 _)
      have HOW:Hid ((m.setCell ⟨j.heap.size,1,none⟩ (.int .i64 z)).ownsRow (X+1) 126 2 v k (rU.flat O)):=(gA.but o.out).row HO8.out (fun g K e=>by have:=n g K;omega);have HXW:Hid (eA (m.setCell ⟨j.heap.size,1,none⟩ (.int .i64 z)) X #[.int .i64 1,.string y,.string ⟨#[]⟩,.int .i64 0,v] 44):=(o.out.block _ (by have:=aA HX8.out;omega) (by omega)).trans HX8.out;have HYW:Hid (eA (m.setCell ⟨j.heap.size,1,none⟩ (.int .i64 z)) w.heap.size #[.int .i64 0,.string ⟨#[]⟩,.string ⟨#[]⟩,.int .i64 0,.slice none 0 0] 44):=(o.out.block _ (by have:=aA HY8.out;omega) (by omega)).trans HY8.out;have HLW:Hid (gC (m.setCell ⟨j.heap.size,1,none⟩ (.int .i64 z)) wr.heap.size (some ⟨x,0,none⟩) f):=L8.out.butS o.out hg6;have hWs:(m.setCell ⟨j.heap.size,1,none⟩ (.int .i64 z)).heap.size=m.heap.size:=by simp
      go_wp2_with(at_builtin;refine wpList_append_lies _ rfl _ _ _ rfl (X+1) 126 i0 _ 2 32 underlying42 hi0 hz0 hz1 hz2 rfl (by omega) v k (rU.flat O) rfl (by exact HOW.out.alloc _) ⟨m.heap.size,0,none⟩ 1 1 [.slice (some ⟨x,0,none⟩) f.length J,.int .i64 z] rfl rfl (by have:=World.news_of_block (cs:=#[.slice (some ⟨x,0,none⟩) f.length J,.int .i64 z]) (t:=126) (fr:=(0,0)) (heap_alloc_new (m.setCell ⟨j.heap.size,1,none⟩ (.int .i64 z)) (.cells #[.slice (some ⟨x,0,none⟩) f.length J,.int .i64 z] 126));simpa using this) (by simp[Value.oneCell']) (by omega) (by simp[maxLen];omega) (by omega) (by simp;omega) (m.heap.size+1) (by simp) ?_;intro E W r G d R hlt9;have D:Hid (eA r X #[.int .i64 1,.string y,.string ⟨#[]⟩,.int .i64 0,v] 44):=(gA.grown d).blk (HXW.out.alloc _) (fun e=>by have:=n _ e;omega);have x9:=D.out.cell 4;have a:=D.out.free 4);have HY9:eA r w.heap.size #[.int .i64 0,.string ⟨#[]⟩,.string ⟨#[]⟩,.int .i64 0,.slice none 0 0] 44:=(gA.grown d).blk (HYW.out.alloc _) (fun e=>by have:=n _ e;omega);have hgg:(v.ownBlock=some E/\E<wr.heap.size)\/(m.setCell ⟨j.heap.size,1,none⟩ (.int .i64 z)).heap.size<=E:=by
       rcases R with h|h
       ·exact Ca ⟨h,(n _ h).2⟩
       ·exact Ja (by omega)
      have T:∀g,g<(m.setCell ⟨j.heap.size,1,none⟩ (.int .i64 z)).heap.size->v.ownBlock≠some g->r.heap[g]?=(m.setCell ⟨j.heap.size,1,none⟩ (.int .i64 z)).heap[g]?:=fun g K F=>by
       rw[(gA.grown d).block g (by simp;omega) F];exact(cA _ _).block g K
      have Q:Below w.heap.size m r:=(((Below.refl w.heap.size m).setCell (show w.heap.size<=j.heap.size by omega) _).alloc (by simp;omega) _).grown d (by simp;omega) (fun q hq=>by have:=n q hq;omega);have hR9:wI rU r (X+1) 126 (.slice (some ⟨E,0,none⟩) (k+1) W) (k+1) (O++[⟨⟨f,z⟩,some ⟨x,0,none⟩,J⟩]):=wI.snoc (wr:=wr) (w4:=(m.setCell ⟨j.heap.size,1,none⟩ (.int .i64 z))) (w6:=r) (v:=v) G HR.out (by omega) (by have:=Q.size;omega) (by omega)
       (fun g K hb F=>((T g (by omega) F).trans (o.out.block g (by omega) (by omega))).trans (H8.out.2.block g K (by omega)))
       (fun g K hg4=>T g hg4 (fun e=>by have:=(n _ e).2;omega))
       ⟨HLW.out.inR,⟨hl6,hc6',hsl6⟩,hz⟩ hgg
      have hT9:gA (·=X) r (r.setCell ⟨X,4,none⟩ (.slice (some ⟨E,0,none⟩) (k+1) W)):=(gA.refl (·=X) r).setCell (Ca rfl) 4 _;have p:Below w.heap.size m (r.setCell ⟨X,4,none⟩ (.slice (some ⟨E,0,none⟩) (k+1) W)):=Q.setCell L _;exact⟨⟨k+1,_,O++[⟨⟨f,z⟩,some ⟨x,0,none⟩,J⟩],by omega,by go_num,by have:=D.out.set 4 (.slice (some ⟨E,0,none⟩) (k+1) W);exact this,HY9.keepS (by omega) _,bA (hR9.turn hT9 (fun g e=>by rw[e];omega)),(H8.out.1.below (p.mono C)).mono (by omega),(HBU.out.trans H8.out.2).below_to (p.mono (by omega)),by have:=p.size;omega⟩,by simp[intOf];omega⟩
     ·have h4':¬(((v7:Nat):Int)=4):=by omega
      have z0:=Z7.out.cell 0;have z1:=Z7.out.cell 1;have x4:=V.out.cell 4;have hs7:j.heap.size<l.heap.size:=aA Z7.out;have o:Hid (dB j.heap.size l l):=(dB.refl j.heap.size l)
      have HOW:Hid (l.ownsRow (X+1) 126 2 v k (rU.flat O)):=(gA.but o.out).row HO7.out (fun g K e=>by have:=n g K;omega);have HXW:Hid (eA l X #[.int .i64 1,.string y,.string ⟨#[]⟩,.int .i64 0,v] 44):=(o.out.block _ (by have:=aA V.out;omega) (by omega)).trans V.out;have HYW:Hid (eA l w.heap.size #[.int .i64 0,.string ⟨#[]⟩,.string ⟨#[]⟩,.int .i64 0,.slice none 0 0] 44):=(o.out.block _ (by have:=aA HY7.out;omega) (by omega)).trans HY7.out;have HLW:Hid (gC l wr.heap.size (some ⟨x,0,none⟩) f):=L7.out.butS o.out hg6;have hWs:l.heap.size=l.heap.size:=by simp
      go_wp2_with(at_builtin;refine wpList_append_lies _ rfl _ _ _ rfl (X+1) 126 i0 _ 2 32 underlying42 hi0 hz0 hz1 hz2 rfl (by omega) v k (rU.flat O) rfl (by exact HOW.out.alloc _) ⟨l.heap.size,0,none⟩ 1 1 [.slice (some ⟨x,0,none⟩) f.length J,.int .i64 0] rfl rfl (by have:=World.news_of_block (cs:=#[.slice (some ⟨x,0,none⟩) f.length J,.int .i64 0]) (t:=126) (fr:=(0,0)) (heap_alloc_new l (.cells #[.slice (some ⟨x,0,none⟩) f.length J,.int .i64 0] 126));simpa using this) (by simp[Value.oneCell']) (by omega) (by simp[maxLen];omega) (by omega) (by simp;omega) (l.heap.size+1) (by simp) ?_;intro E W r G d R hlt9;have D:Hid (eA r X #[.int .i64 1,.string y,.string ⟨#[]⟩,.int .i64 0,v] 44):=(gA.grown d).blk (HXW.out.alloc _) (fun e=>by have:=n _ e;omega);have x9:=D.out.cell 4;have a:=D.out.free 4);have HY9:eA r w.heap.size #[.int .i64 0,.string ⟨#[]⟩,.string ⟨#[]⟩,.int .i64 0,.slice none 0 0] 44:=(gA.grown d).blk (HYW.out.alloc _) (fun e=>by have:=n _ e;omega);have hgg:(v.ownBlock=some E/\E<wr.heap.size)\/l.heap.size<=E:=by
       rcases R with h|h
       ·exact Ca ⟨h,(n _ h).2⟩
       ·exact Ja (by omega)
      have T:∀g,g<l.heap.size->v.ownBlock≠some g->r.heap[g]?=l.heap[g]?:=fun g K F=>by
       rw[(gA.grown d).block g (by simp;omega) F];exact(cA _ _).block g K
      have Q:Below w.heap.size l r:=((Below.refl w.heap.size l).alloc (by omega) _).grown d (by simp;omega) (fun q hq=>by have:=n q hq;omega);have hR9:wI rU r (X+1) 126 (.slice (some ⟨E,0,none⟩) (k+1) W) (k+1) (O++[⟨⟨f,0⟩,some ⟨x,0,none⟩,J⟩]):=wI.snoc (wr:=wr) (w4:=l) (w6:=r) (v:=v) G HR.out (by omega) (by have:=Q.size;omega) (by omega)
       (fun g K hb F=>((T g (by omega) F).trans (o.out.block g (by omega) (by omega))).trans (U.out.2.block g K (by omega)))
       (fun g K hg4=>T g hg4 (fun e=>by have:=(n _ e).2;omega))
       ⟨HLW.out.inR,⟨hl6,hc6',hsl6⟩,⟨by simp only;omega,by simp only;omega⟩⟩ hgg
      have hT9:gA (·=X) r (r.setCell ⟨X,4,none⟩ (.slice (some ⟨E,0,none⟩) (k+1) W)):=(gA.refl (·=X) r).setCell (Ca rfl) 4 _;have p:Below w.heap.size l (r.setCell ⟨X,4,none⟩ (.slice (some ⟨E,0,none⟩) (k+1) W)):=Q.setCell L _;exact⟨⟨k+1,_,O++[⟨⟨f,0⟩,some ⟨x,0,none⟩,J⟩],by omega,by go_num,by have:=D.out.set 4 (.slice (some ⟨E,0,none⟩) (k+1) W);exact this,HY9.keepS (by omega) _,bA (hR9.turn hT9 (fun g e=>by rw[e];omega)),(U.out.1.below (p.mono C)).mono (by omega),(HBU.out.trans U.out.2).below_to (p.mono (by omega)),by have:=p.size;omega⟩,by simp[intOf];omega⟩
   ·have hke:k=nn+1:=by omega
    have hlk':¬((k:Int)<1+(nn:Int)):=by omega
    obtain⟨ra,rc,rfl⟩:=HR.out.row;have c0:=HX.out.cell 0;have c1:=HX.out.cell 1;have c2:=HX.out.cell 2;have c3:=HX.out.cell 3;have c4:=HX.out.cell 4;have r0:=HY.out.cell 0;have s0:=HY.out.free 0;have r1:=HY.out.cell 1;have s1:=HY.out.free 1;have r2:=HY.out.cell 2;have s2:=HY.out.free 2;have r3:=HY.out.cell 3;have s3:=HY.out.free 3;have r4:=HY.out.cell 4;have s4:=HY.out.free 4;go_wp2;refine bodyPost_ret (v:=.agg #[.int .i64 1,.string y,.string ⟨#[]⟩,.int .i64 0,.slice ra (nn+1) rc]) (by simp[results,results35,go_sem,r0,r1,r2,r3,r4]) rfl ?_;subst hke;have hyl:O.length=nn+1:=HR.out.2.1;have hT:gA (·=w.heap.size) wr (((((wr.setCell ⟨w.heap.size,0,none⟩ (.int .i64 1)).setCell ⟨w.heap.size,1,none⟩ (.string y)).setCell ⟨w.heap.size,2,none⟩ (.string ⟨#[]⟩)).setCell ⟨w.heap.size,3,none⟩ (.int .i64 0)).setCell ⟨w.heap.size,4,none⟩ (.slice ra (nn+1) rc)):=(((((gA.refl (·=w.heap.size) wr).setCell (Ca rfl) 0 _).setCell (Ca rfl) 1 _).setCell (Ca rfl) 2 _).setCell (Ca rfl) 3 _).setCell (Ca rfl) 4 _;refine⟨⟨1,y,⟨#[]⟩,0,O,ra,rc⟩,by unfold QV.val;simp only[hyl],⟨((HR.out.turn hT (fun g e=>by rw[e];omega)).out).wide (by omega) (Ka _),yW ⟨by omega,by omega⟩ htn (by decide) ⟨by omega,by omega⟩ (by omega)⟩,(HC.out.below ?_).mono (by omega),HBU.out.below_to ?_⟩
    ·repeat (with_reducible first|exact Below.refl _ _|exact C|exact hZ|refine Below.setCell ?_ ?_ _)
    ·repeat (with_reducible first|exact Below.refl _ _|exact C|exact hZ|refine Below.setCell ?_ ?_ _)
def sN (r:lC):Prop:=r.n9.size<=70000/\r.text.size<=70000/\AC r.kind/\AC r.num
theorem WQ {a:List mA} {k:Nat} (h:wB a<=k) (e:k<=1000000000):JC a:=fun i b=>by
 have c:=jL a i b;have d:=yJ a (i+1);exact⟨by omega,by omega⟩
theorem bq:∀{ls:List mA},uR ls->wB ls<=ls.length*323
 |[],_=>La _
 |l::r,h=>by
  have b:=h l (Pb ..);have c:=bq (ls:=r) fun x a=>h x (Cb _ a);simp only[wB,Jb];omega
theorem XF (B P N:Nat) (w:World) (h:kB w B P N) (r:N<=1000000):
 Calls prog 53 #[.pointer (some ⟨B,0,none⟩)] w fun e g=>∃v:Nat,(v=0\/v=1\/v=2)/\e=.returned (.int .i64 (v:Nat))/\kB g B P (N+1)/\dB B w g:=by
 have f:=bA (cB B P N 10 w h (by omega) (by omega) (by omega));clear h;go_enter func53,ntmps53;go_wp2_with fail;refine f.out.mono ?_;rintro e t ⟨v,s,rfl,c,b⟩;have d:=bA (Ud c b);clear c b f;have a:v=9\/v=7\/v=8\/(v≠9/\v≠7/\v≠8):=by omega
 rcases a with rfl|rfl|rfl|⟨n,l,m⟩
 ·go_wp2;go_ret;exact⟨2,by omega,rfl,d.out⟩
 ·go_wp2;go_ret;exact⟨1,by omega,rfl,d.out⟩
 ·go_wp2;go_ret;exact⟨1,by omega,rfl,d.out⟩
 ·have k:¬(v:Int)=9:=by omega
  have i:¬(v:Int)=7:=by omega
  have j:¬(v:Int)=8:=by omega
  have q:((v:Int)==9)=false:=by simpa using k
  have o:((v:Int)==7)=false:=by simpa using i
  have p:((v:Int)==8)=false:=by simpa using j
  clear n l m;go_wp2;go_ret;exact⟨0,by omega,rfl,d.out⟩
theorem NC (B P N:Nat) (w:World) (h:kB w B P N) (I:N<=90000):
 Calls prog 157 #[.pointer (some ⟨B,0,none⟩)] w fun e s=>∃(F:List mA) (a:Option Addr) (g:Nat),e=.returned (.slice a F.length g)/\F.length<=g/\F.length<=7/\wB F<=2261/\sC s a F/\kB s B P (N+100)/\dB B w s:=by
 have v:=bA (pV B P N w h (by omega));clear h;go_enter func157,ntmps157;go_wp2_with fail;refine v.out.mono ?_;rintro e t ⟨A,z,f,rfl,_,D,m,b,j,i⟩;have q:=(cG b).1;have C:=bq m;have y:=bA (bZ f);have p:=bA (DF (ls:=f));have c:=bA (bS (some ⟨A,0,none⟩) z f t (rF b).labs (WQ (k:=2261) (by omega) (by omega)) (by omega) q);have n:Hid (kB t B P (N+100)/\dB B w t):=⟨j.mono (by omega),i⟩
 unfold OG at c;generalize (pA f).1=F at *;generalize (pA f).2.1=G at *;generalize (pA f).2.2=H at *;clear b j i v m;go_wp2_with fail;refine c.out.mono ?_;rintro e u ⟨x,E,rfl,r,l,d⟩;have o:Hid (kB u B P (N+100)/\dB B w u/\sC u x F):=⟨n.out.1.later d,n.out.2.later d,l.labs⟩
 clear l d n c;go_wp2;go_ret;exact⟨F,x,E,rfl,r,by have:=p.out;omega,by have:=y.out;omega,o.out.2.2,o.out.1,o.out.2.1⟩
theorem XJ (B P N:Nat) (w:World) (h:kB w B P N) (r:N<=90000):
 Calls prog 135 #[.pointer (some ⟨B,0,none⟩)] w fun e m=>∃s:ByteArray,s.size<=70000/\e=.returned (.string s)/\kB m B P (N+100)/\dB B w m:=by
 have l:=bA (NC B P N w h r);clear h;go_enter func135,ntmps135;go_wp2_with fail;refine l.out.mono ?_;rintro e j ⟨F,p,q,rfl,i,t,g,a,d,c⟩;have k:=bA (mW p q F j a (WQ g (by omega)) (by omega) i);have u:=DT F;have f:Hid (kB j B P (N+100)/\dB B w j):=⟨d,c⟩
 clear a d c l;generalize gG F=v at *;go_wp2_with fail;refine k.out.mono ?_;rintro e n ⟨rfl,b⟩;have o:Hid (kB n B P (N+100)/\dB B w n):=⟨f.out.1.later b,f.out.2.later b⟩
 clear b f k;go_wp2;go_ret;exact⟨v,by omega,rfl,o.out⟩
def aDf (w a:World) (B P N:Nat) (e:Ending):Prop:=∃r:lC,e=.returned (.agg #[.int .i64 r.kind,.string r.n9,.string r.text,.int .i64 r.num])/\sN r/\kB a B P N/\dB B w a
theorem XK (B P N:Nat) (w:World) (h:kB w B P N) (hN:N<=50000):
 Calls prog 99 #[.pointer (some ⟨B,0,none⟩)] w fun e w'=>aDf w w' B P (N+200) e:=by
 have X:Hid (kB w B P N):=h;have hlt:=h.lt;have k:=h.up.2;have J:w.heap.size<=w.heap.size:=Ka _;clear h;go_enter func99,ntmps99;go_wp2_with fail;refine(cB B P N 5 _ (X.out.later (cA _ _)) (by omega) (by omega) (by omega)).mono ?_;rintro e G ⟨F,hsw,rfl,K,A⟩;have C:eA (w.alloc (.cells #[.int .i64 0,.string ⟨#[]⟩,.string ⟨#[]⟩,.int .i64 0] 31)) w.heap.size #[.int .i64 0,.string ⟨#[]⟩,.string ⟨#[]⟩,.int .i64 0] 31:=heap_alloc_new _ _;have z:Hid (eA G w.heap.size #[.int .i64 0,.string ⟨#[]⟩,.string ⟨#[]⟩,.int .i64 0] 31):=(A.block _ (aA C) (by omega)).trans C;have t:Hid (kB G B P (N+1)/\dB B w G):=⟨K,(dB.of (cA _ _)).trans A⟩
 have q:w.heap.size<G.heap.size:=aA z.out;clear K A X C;have D:F=0\/F=1\/2<=F:=by omega
 rcases D with rfl|rfl|h2
 ·go_wp2_with fail;refine(cB B P (N+1) 3 G t.out.1 (by omega) (by omega) (by omega)).mono ?_;rintro e c ⟨v,hv,rfl,g,d⟩;have s:Hid (kB c B P (N+2)/\dB B w c):=⟨g,t.out.2.trans d⟩
  have i:Hid (eA c w.heap.size #[.int .i64 0,.string ⟨#[]⟩,.string ⟨#[]⟩,.int .i64 0] 31):=(d.block _ q (by omega)).trans z.out;clear g d t z;have M:=i.out.cell 0;have Z:=i.out.free 0;have O:=i.out.cell 1;have s1:=i.out.free 1;have Q:=i.out.cell 2;have s2:=i.out.free 2;have R:=i.out.cell 3;have s3:=i.out.free 3;go_wp2;refine bodyPost_ret (v:=.agg #[.int .i64 2,.string ⟨#[]⟩,.string ⟨#[]⟩,.int .i64 (1+v)]) (by simp[results,results99,go_sem,M,O,Q,R]) rfl ?_;refine⟨⟨2,⟨#[]⟩,⟨#[]⟩,1+v⟩,rfl,⟨by show(0:Nat)<=70000;omega,by show(0:Nat)<=70000;omega,⟨by simp only;omega,by simp only;omega⟩,⟨by simp only;omega,by simp only;omega⟩⟩,(s.out.1.below ?_).mono (by omega),s.out.2.below_to ?_⟩
  ·repeat (with_reducible first|exact Below.refl _ _|exact k|exact J|refine Below.setCell ?_ ?_ _)
  ·repeat (with_reducible first|exact Below.refl _ _|exact k|exact J|refine Below.setCell ?_ ?_ _)
 ·go_wp2_with fail;refine(cH B P (N+1) G t.out.1 (by omega)).mono ?_;rintro e c ⟨n,V,rfl,g,d⟩;have s:Hid (kB c B P (N+2)/\dB B w c):=⟨g,t.out.2.trans d⟩
  have i:Hid (eA c w.heap.size #[.int .i64 0,.string ⟨#[]⟩,.string ⟨#[]⟩,.int .i64 0] 31):=(d.block _ q (by omega)).trans z.out;have U:w.heap.size<c.heap.size:=aA i.out;have l:w.heap.size<=c.heap.size:=by omega
  clear g d t z q;go_wp2_with fail;refine(rP B P (N+2) _ (s.out.1.later (cA _ _)) (by omega)).mono ?_;rintro e x ⟨mt,hmt,rfl,r,f⟩;have j:eA (c.alloc (.cells #[.int .i64 3,.string n,.string ⟨#[]⟩,.int .i64 0] 31)) c.heap.size #[.int .i64 3,.string n,.string ⟨#[]⟩,.int .i64 0] 31:=heap_alloc_new _ _;have o:Hid (eA x c.heap.size #[.int .i64 3,.string n,.string ⟨#[]⟩,.int .i64 0] 31):=(f.block _ (aA j) (by omega)).trans j;have H:Hid (kB x B P (N+3)/\dB B w x):=⟨r.mono (by omega),(s.out.2.later (cA _ _)).trans f⟩
  have m:Hid (eA x w.heap.size #[.int .i64 0,.string ⟨#[]⟩,.string ⟨#[]⟩,.int .i64 0] 31):=(f.block _ (by simp;omega) (by omega)).trans (i.out.alloc _);clear r f j s i;have T:=o.out.cell 2;have a:=o.out.free 2;go_wp2_with fail;refine(cB B P (N+3) 9 _ (H.out.1.below ((Below.refl _ _).setCell (by show P<=c.heap.size;omega) _)) (by omega) (by omega) (by omega)).mono ?_;rintro e S ⟨v,hv,rfl,L,u⟩;have E:=eA.set o.out 2 (.string mt);have I:Hid (eA S c.heap.size #[.int .i64 3,.string n,.string mt,.int .i64 0] 31):=(u.block _ (aA E) (by omega)).trans E;have W:Hid (kB S B P (N+4)/\dB B w S):=⟨L,(H.out.2.below_to ((Below.refl _ _).setCell l _)).trans u⟩
  have y:Hid (eA S w.heap.size #[.int .i64 0,.string ⟨#[]⟩,.string ⟨#[]⟩,.int .i64 0] 31):=(u.block _ (by have:=aA m.out;simpa using this) (by omega)).trans (m.out.keepS (by omega) _);clear L u E H o T a m;have c0:=I.out.cell 0;have c1:=I.out.cell 1;have T:=I.out.cell 2;have c3:=I.out.cell 3;have a:=I.out.free 2;have b:=I.out.free 3;have M:=y.out.cell 0;have Z:=y.out.free 0;have O:=y.out.cell 1;have s1:=y.out.free 1;have Q:=y.out.cell 2;have s2:=y.out.free 2;have R:=y.out.cell 3;have s3:=y.out.free 3;have p:P<=c.heap.size:=by omega
  go_wp2;refine bodyPost_ret (v:=.agg #[.int .i64 3,.string n,.string mt,.int .i64 (v-1)]) (by simp[results,results99,go_sem,M,O,Q,R]) rfl ?_;refine⟨⟨3,n,mt,(v-1)⟩,rfl,⟨by simp only;omega,by simp only;omega,⟨by simp only;omega,by simp only;omega⟩,⟨by simp only;omega,by simp only;omega⟩⟩,(W.out.1.below ?_).mono (by omega),W.out.2.below_to ?_⟩
  ·repeat (with_reducible first|exact Below.refl _ _|exact k|exact p|exact J|exact l|refine Below.setCell ?_ ?_ _)
  ·repeat (with_reducible first|exact Below.refl _ _|exact k|exact p|exact J|exact l|refine Below.setCell ?_ ?_ _)
 ·have g0:¬(F:Int)=0:=by omega
  have g1:¬(F:Int)=1:=by omega
  have e0:((F:Int)==0)=false:=by simpa using g0
  have e1:((F:Int)==1)=false:=by simpa using g1
  go_wp2_with fail;refine(cH B P (N+1) G t.out.1 (by omega)).mono ?_;rintro e c ⟨n,V,rfl,g,d⟩;have s:Hid (kB c B P (N+2)/\dB B w c):=⟨g,t.out.2.trans d⟩
  have i:Hid (eA c w.heap.size #[.int .i64 0,.string ⟨#[]⟩,.string ⟨#[]⟩,.int .i64 0] 31):=(d.block _ q (by omega)).trans z.out;have U:w.heap.size<c.heap.size:=aA i.out;have l:w.heap.size<=c.heap.size:=by omega
  clear g d t z q;go_wp2_with fail;refine(XJ B P (N+2) _ (s.out.1.later (cA _ _)) (by omega)).mono ?_;rintro e x ⟨Y,hky,rfl,r,f⟩;have j:eA (c.alloc (.cells #[.int .i64 1,.string n,.string ⟨#[]⟩,.int .i64 0] 31)) c.heap.size #[.int .i64 1,.string n,.string ⟨#[]⟩,.int .i64 0] 31:=heap_alloc_new _ _;have o:Hid (eA x c.heap.size #[.int .i64 1,.string n,.string ⟨#[]⟩,.int .i64 0] 31):=(f.block _ (aA j) (by omega)).trans j;have H:Hid (kB x B P (N+102)/\dB B w x):=⟨r.mono (by omega),(s.out.2.later (cA _ _)).trans f⟩
  have m:Hid (eA x w.heap.size #[.int .i64 0,.string ⟨#[]⟩,.string ⟨#[]⟩,.int .i64 0] 31):=(f.block _ (by simp;omega) (by omega)).trans (i.out.alloc _);clear r f j s i;have c0:=o.out.cell 0;have c1:=o.out.cell 1;have T:=o.out.cell 2;have c3:=o.out.cell 3;have a:=o.out.free 2;have b:=o.out.free 3;have M:=m.out.cell 0;have Z:=m.out.free 0;have O:=m.out.cell 1;have s1:=m.out.free 1;have Q:=m.out.cell 2;have s2:=m.out.free 2;have R:=m.out.cell 3;have s3:=m.out.free 3;have p:P<=c.heap.size:=by omega
  go_wp2;refine bodyPost_ret (v:=.agg #[.int .i64 1,.string n,.string Y,.int .i64 0]) (by simp[results,results99,go_sem,M,O,Q,R]) rfl ?_;refine⟨⟨1,n,Y,0⟩,rfl,⟨by simp only;omega,by simp only;omega,⟨by simp only;omega,by simp only;omega⟩,⟨by simp only;omega,by simp only;omega⟩⟩,(H.out.1.below ?_).mono (by omega),H.out.2.below_to ?_⟩
  ·repeat (with_reducible first|exact Below.refl _ _|exact k|exact p|exact J|exact l|refine Below.setCell ?_ ?_ _)
  ·repeat (with_reducible first|exact Below.refl _ _|exact k|exact p|exact J|exact l|refine Below.setCell ?_ ?_ _)
