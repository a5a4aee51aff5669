import Derived.Test.YtjpeimianeiegaaGreatDoorJ38
import Derived.Test.YtjpeimianeiegaaGreatDoorJ39
set_option maxRecDepth 100000
set_option maxHeartbeats 4000000
namespace Go.Proofs.YtjpeimianeiegaaGreatDoor
open Go.RowKit Tryz
theorem YK (c b d:Nat) (i j k l:Value) (u:TypeId) (h:Value) (a:List PanicEntry) (w:World) (m:w.cell? ⟨c,0,none⟩=some i) (n:w.cell? ⟨b,0,none⟩=some j) (o:w.cell? ⟨b,1,none⟩=some k) (p:w.cell? ⟨d,0,none⟩=some l) (y:w.frozen? ⟨c,0,none⟩=false) (z:w.frozen? ⟨b,0,none⟩=false) (A:w.frozen? ⟨b,1,none⟩=false) (B:w.frozen? ⟨d,0,none⟩=false) (q:¬b=c) (f:¬d=c) (g:¬d=b):
 CallsD prog 134 #[.pointer (some ⟨c,0,none⟩),.pointer (some ⟨b,0,none⟩),.pointer (some ⟨d,0,none⟩)] (.panicking ({ v:=.iface u h,recovered:=false}:: a)) w fun e s x=>
  e=.returned (.tuple #[])/\s=.panicking ({ v:=.iface u h,recovered:=true}:: a)/\x=(((w.setCell ⟨c,0,none⟩ (.int .i64 0)).setCell ⟨b,0,none⟩ (.int .i64 0)).setCell ⟨b,1,none⟩ (.slice none 0 0)).setCell ⟨d,0,none⟩ (.bool false):=by
 refine callsD_of_wpS func134 rfl fun C cs r=>?_;apply wpS_seq;apply wpS_region;simp[wpOpsS,go_sem,recoverD,r,ntmps134,Exit.thenS];refine wpS_cond (t:=true) (by simp[Act.eval,Array.replicate]) ?_;simp only[Lf];apply wpS_region;simp[wpOpsS,go_sem,m,n,o,p,y,z,A,B,bodyPostS,results,results134]
theorem fh (p q r:Value) (w:World):
 CallsD prog 134 #[p,q,r] .returning w fun e c d=>e=.returned (.tuple #[])/\c=.returning/\d=w:=by
 refine callsD_of_wpS func134 rfl fun a cs b=>?_;apply wpS_seq;apply wpS_region;simp[wpOpsS,go_sem,recoverD,b,ntmps134,Exit.thenS];refine wpS_cond (t:=false) (by simp[Act.eval,Array.replicate]) ?_;simp only[Gd,Hg];refine wpS_of_wp (wp_skip ?_);cases a
 simp_all[bodyPostS,results,results134]
structure DS (w W:World) (c:nB) (l n:Int) (v:Value):Prop where
 C:lA W w.heap.size #[.int .i64 c.w,.int .i64 c.tl,.int .i64 c.ml,.int .i64 c.sh,.int .i64 c.ha,.int .i64 c.sg] 40
 L:lA W (w.heap.size+1) #[.int .i64 l] 3
 X:lA W (w.heap.size+1+1) #[.int .i64 n,v] 35
 Y:lA W (w.heap.size+1+1+1) #[.bool false] 4
 B:Below w.heap.size w W
theorem DS.turn {w W b:World} {S:Nat->Prop} {c:nB} {l n:Int} {v:Value} (h:DS w W c l n v) (a:gA S W b) (d:∀j,S j->w.heap.size+1+1+1<j):DS w b c l n v:=by
 have k:∀j,j<=w.heap.size+1+1+1->¬S j:=fun j f e=>by have:=d j e;omega
 exact⟨a.blk h.C (k _ (by omega)),a.blk h.L (k _ (by omega)),a.blk h.X (k _ (by omega)),a.blk h.Y (k _ (by omega)),h.B.trans (a.below h.B.size fun j f=>k j (by omega))⟩
theorem DS.new (w:World) (c:nB) (s:ByteArray):DS w (((((w.alloc (.cells #[.int .i64 c.w,.int .i64 c.tl,.int .i64 c.ml,.int .i64 c.sh,.int .i64 c.ha,.int .i64 c.sg] 40)).alloc (.cells #[.int .i64 0] 3)).alloc (.cells #[.int .i64 0,.slice none 0 0] 35)).alloc (.cells #[.bool false] 4)).alloc (.cells #[.string s,.bool false] 212)) c 0 0 (.slice none 0 0)/\RT (((((w.alloc (.cells #[.int .i64 c.w,.int .i64 c.tl,.int .i64 c.ml,.int .i64 c.sh,.int .i64 c.ha,.int .i64 c.sg] 40)).alloc (.cells #[.int .i64 0] 3)).alloc (.cells #[.int .i64 0,.slice none 0 0] 35)).alloc (.cells #[.bool false] 4)).alloc (.cells #[.string s,.bool false] 212)) (w.heap.size+1+1+1+1) ⟨s,false⟩:=by
 have a:=lA.new (w.alloc (.cells #[.int .i64 c.w,.int .i64 c.tl,.int .i64 c.ml,.int .i64 c.sh,.int .i64 c.ha,.int .i64 c.sg] 40)) #[.int .i64 0] 3;have b:=lA.new ((w.alloc (.cells #[.int .i64 c.w,.int .i64 c.tl,.int .i64 c.ml,.int .i64 c.sh,.int .i64 c.ha,.int .i64 c.sg] 40)).alloc (.cells #[.int .i64 0] 3)) #[.int .i64 0,.slice none 0 0] 35;have d:=lA.new (((w.alloc (.cells #[.int .i64 c.w,.int .i64 c.tl,.int .i64 c.ml,.int .i64 c.sh,.int .i64 c.ha,.int .i64 c.sg] 40)).alloc (.cells #[.int .i64 0] 3)).alloc (.cells #[.int .i64 0,.slice none 0 0] 35)) #[.bool false] 4;have e:=lA.new ((((w.alloc (.cells #[.int .i64 c.w,.int .i64 c.tl,.int .i64 c.ml,.int .i64 c.sh,.int .i64 c.ha,.int .i64 c.sg] 40)).alloc (.cells #[.int .i64 0] 3)).alloc (.cells #[.int .i64 0,.slice none 0 0] 35)).alloc (.cells #[.bool false] 4)) #[.string s,.bool false] 212;exact⟨⟨((((lA.new _ _ _).alloc _).alloc _).alloc _).alloc _,by simpa using ((a.alloc _).alloc _).alloc _,by simpa using (b.alloc _).alloc _,by simpa using d.alloc _,pA (pA (pA (pA (cA _ _) (cA _ _)) (cA _ _)) (cA _ _)) (cA _ _)⟩,⟨_,by simpa using e⟩⟩
theorem DS.set {w W:World} {c:nB} {l n l' n':Int} {v v':Value} (h:DS w W c l n v):DS w (((W.setCell ⟨w.heap.size+1,0,none⟩ (.int .i64 l')).setCell ⟨w.heap.size+1+1,0,none⟩ (.int .i64 n')).setCell ⟨w.heap.size+1+1,1,none⟩ v') c l' n' v':=by
 have a:=(gA.refl (·=w.heap.size+1) W).setCell (Ba rfl) 0 (.int .i64 l');have b:=fun V:World=>((gA.refl (·=w.heap.size+1+1) V).setCell (Ba rfl) 0 (.int .i64 n')).setCell (Ba rfl) 1 v';have f:=h.L.set 0 (.int .i64 l');have g:=((a.blk h.X (by omega)).set 0 (.int .i64 n')).set 1 v';have d:=h.B.size;exact⟨(b _).blk (a.blk h.C (by omega)) (by omega),(b _).blk (by simpa using f) (by omega),by simpa using g,(b _).blk (a.blk h.Y (by omega)) (by omega),(h.B.trans (a.below d fun j i e=>by omega)).trans ((b _).below (by simpa using d) fun j i e=>by omega)⟩
def fY (c:nB) (s:ByteArray) (w:World) (e:Ending) (d:World):Prop:=
 ∃b a,e=.returned (.tuple #[.int .i64 (pJ c s).1,.agg #[.int .i64 (pJ c s).2.1,.slice b (pJ c s).2.2.1.length a],.bool (pJ c s).2.2.2])/\uC d w.heap.size b (pJ c s).2.2.1/\Below w.heap.size w d
theorem ZH (c:nB) (s:ByteArray) (w:World) (hs:s.size<=1048576) (hU:dF w):Calls prog 99 #[tE c,.string s] w fun e w'=>fY c s w e w':=by
 have x:=bA (fun W B h=>qk B s W h (by omega));have HU:=bA hU;have N:=bA (DS.new w c s);have t:(oE s).2.r9=false->(aC (oE s).1).size<=1048576:=fun h=>by have:=yg h;omega
 have H:=NV (oE s).1;have p:=mi (oE s).1;have G:=bA (fun(A:(oE s).2.r9=false) W r n (h:eC W r (oE s).1)=>iz (zA (BO s).1) (zA (yV s).1) r n (oE s).1 W h (fun i V=>by
  obtain⟨a1,a2,a3,T,U⟩:=p i V;have:=t A;exact⟨by omega,by omega,by omega,fun j v=>by have:=T j v;omega,fun j v=>by have:=U j v;omega⟩) (by have:=t A;omega) (by have:=t A;omega))
 have R:=bA (fun(A:(oE s).2.r9=false) W r n (h:eC W r (oE s).1) (hu:dF W)=>SR c (zA (yV s).1) r n (oE s).1 1048576 W h (fun i V=>by
  obtain⟨a1,a2,a3,T,U⟩:=p i V;have:=t A;exact⟨by unfold maxLen;omega,fun j v=>by have:=T j v;omega,fun j v=>by have:=U j v;omega,by omega,by omega,by omega⟩) (by have:=t A;omega) hu)
 have hc:(oE s).2.r9=true/\pJ c s=(0,0,[],false)\/(oE s).2.r9=false/\(((yI (zA (BO s).1) (zA (yV s).1) (oE s).1).toList==s.toList)=true/\(iB c (zA (yV s).1) (oE s).1=true/\pJ c s=(zA (BO s).1,zA (yV s).1,(oE s).1,true)\/iB c (zA (yV s).1) (oE s).1=false/\pJ c s=(0,0,[],false))\/((yI (zA (BO s).1) (zA (yV s).1) (oE s).1).toList==s.toList)=false/\pJ c s=(0,0,[],false)):=by
  cases o:(oE s).2.r9 with
  |true=>exact Ba ⟨rfl,NZ o⟩
  |false=>
   refine Ea ⟨rfl,?_⟩;by_cases u:yI (zA (BO s).1) (zA (yV s).1) (oE s).1=s
   ·refine Ba ⟨by simp[u],?_⟩;cases hok:iB c (zA (yV s).1) (oE s).1 with
    |true=>exact Ba ⟨rfl,wd o u hok⟩
    |false=>exact Ea ⟨rfl,wk hok⟩
   ·refine Ea ⟨Ic.2 fun h=>u (dP ?_),wh u⟩;simpa[ByteArray.toList_eq]using eq_of_beq h
 clear t H p hU;unfold pw at x;unfold fY;unfold tE at *;generalize pJ c s=D at *;generalize yI (zA (BO s).1) (zA (yV s).1) (oE s).1=EB at *;generalize iB c (zA (yV s).1) (oE s).1=SB at *;generalize zA (BO s).1=L at *;generalize zA (yV s).1=M at *;generalize (oE s).1=P at *;generalize (oE s).2=rz at *;rcases hc with⟨o,rfl⟩|⟨o,⟨h1,⟨rfl,rfl⟩|⟨rfl,rfl⟩⟩|⟨h1,rfl⟩⟩
 all_goals
  go_enter_defers func99,ntmps99;go_wp2_with fail;refine(x.out _ (w.heap.size+1+1+1+1) N.out.2).mono ?_;rintro e w1 (⟨I,r,n,rfl,ho,-,t⟩|⟨I,rfl,t⟩)
 all_goals first|exact absurd (I.symm.trans o) (by decide)|skip
 all_goals
  have X:=bA (N.out.1.turn (gA.but t) (fun j e=>by omega));clear t x N
 all_goals first
  |(have O:Hid (uC w1 (w.heap.size+1+1+1+1+1) r P):=bA (by simpa using ho)
    have y0:=X.out.L.cell 0
    obtain⟨y1,y2⟩:=X.out.X.c2
    have k:=X.out.L.free
    have l:=X.out.X.free
    clear ho
    go_wp2_with fail
    replace X:=bA (X.out.set (l':=L) (n':=M) (v':=.slice r P.length n))
    have ht:=(((gA.refl (·<w.heap.size+1+1+1) w1).setCell (g:=w.heap.size+1) (Ba (by omega)) 0 (.int .i64 L)).setCell (g:=w.heap.size+1+1) (Ba (by omega)) 0 (.int .i64 M)).setCell (g:=w.heap.size+1+1) (Ba (by omega)) 1 (.slice r P.length n)
    replace O:=bA (O.out.turned ht (fun g h _ e=>by omega))
    clear y0 y1 y2 k l ht
    generalize ((w1.setCell ⟨w.heap.size+1,0,none⟩ (.int .i64 L)).setCell ⟨w.heap.size+1+1,0,none⟩ (.int .i64 M)).setCell ⟨w.heap.size+1+1,1,none⟩ (.slice r P.length n)=W2 at *
    refine(G.out o _ _ _ O.out.tens).mono ?_
    rintro e w3 ⟨rfl,y⟩
    replace X:=bA (X.out.turn (S:=fun _=>False) (gA.of y) (fun j e=>e.elim))
    replace O:=bA (O.out.later y)
    obtain⟨g0,g1,g2,g3,g4,g5⟩:=X.out.C.c6
    obtain⟨E,F⟩:=X.out.X.c2
    clear y G
    go_wp2_with fail
    first
     |(go_at_call 138;refine(R.out o _ _ _ O.out.tens (HU.out.later X.out.B)).mono ?_;rintro e w5 ⟨rfl,z⟩;replace X:=bA (X.out.turn (S:=fun _=>False) (gA.of z) (fun j e=>e.elim));replace O:=bA (O.out.later z);clear z g0 g1 g2 g3 g4 g5 E F;obtain⟨E,F⟩:=X.out.X.c2;go_wp2_with fail)
     |skip
    have J:=X.out.L.cell 0
    have Q:=X.out.Y.cell 0
    have k:=X.out.L.free
    have l:=X.out.X.free
    have m:=X.out.Y.free)
  |skip
 rotate_left
 ·refine fC (MQ _ _) ?_;go_wp2_with fail;go_region
  go_wp2;refine leaves_cons (f:=134) (args:=#[.pointer (some ⟨w.heap.size+1,0,none⟩),.pointer (some ⟨w.heap.size+1+1,0,none⟩),.pointer (some ⟨w.heap.size+1+1+1,0,none⟩)]) (by simp) (by simp[go_sem]) ?_;refine(fh _ _ _ _).mono ?_;rintro e u' Z ⟨rfl,rfl,rfl⟩;simp[Leaves,settle,results,results99,go_sem,J,E,F,Q];have K:=fun a b c d=>((((gA.refl (fun g=>w.heap.size<=g/\g<w.heap.size+1+1+1+1) w5).setCell (g:=w.heap.size+1) (Ba (by omega)) 0 a).setCell (g:=w.heap.size+1+1) (Ba (by omega)) 0 b).setCell (g:=w.heap.size+1+1) (Ba (by omega)) 1 c).setCell (g:=w.heap.size+1+1+1) (Ba (by omega)) 0 d;have hz:=X.out.B.size;first
   |exact⟨(O.out.turned (K _ _ _ _) (fun g h _ e=>by omega)).mono (by omega),X.out.B.trans ((K _ _ _ _).below hz fun j v e=>by omega)⟩
   |exact⟨(O.out.turned (K _ _ _ _).drew (fun g h _ e=>by omega)).mono (by omega),X.out.B.trans ((K _ _ _ _).drew.below hz fun j v e=>by omega)⟩
 all_goals first|(have q:=J;clear q;refine fC (DU _ _) ?_)|skip
 all_goals
  have J:=X.out.L.cell 0;obtain⟨E,F⟩:=X.out.X.c2;have Q:=X.out.Y.cell 0;refine leaves_cons (f:=134) (args:=#[.pointer (some ⟨w.heap.size+1,0,none⟩),.pointer (some ⟨w.heap.size+1+1,0,none⟩),.pointer (some ⟨w.heap.size+1+1+1,0,none⟩)]) (by simp) (by simp[go_sem]) ?_;refine(YK (w.heap.size+1) (w.heap.size+1+1) (w.heap.size+1+1+1) _ _ _ _ _ _ [] _ J E F Q (X.out.L.free 0) (X.out.X.free 0) (X.out.X.free 1) (X.out.Y.free 0) (by omega) (by omega) (by omega)).mono ?_;rintro e u' Z ⟨rfl,rfl,rfl⟩;simp[Leaves,settle,results,results99,go_sem,J,E,F,Q];exact⟨Ba rfl,(((X.out.B.setCell (by simp<;>omega) _).setCell (by simp<;>omega) _).setCell (by simp<;>omega) _).setCell (by simp<;>omega) _⟩
