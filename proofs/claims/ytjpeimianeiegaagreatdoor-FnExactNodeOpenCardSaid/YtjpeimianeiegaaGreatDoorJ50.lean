import Derived.Test.YtjpeimianeiegaaGreatDoorJ27
import Derived.Test.YtjpeimianeiegaaGreatDoorJ49
set_option maxRecDepth 100000
set_option maxHeartbeats 8000000
namespace Go.Proofs.YtjpeimianeiegaaGreatDoor
open Go.RowKit Tryz
theorem YJ (b c:Nat) (f g h:Value) (u:TypeId) (d:Value) (a:List PanicEntry) (w:World) (i:w.cell? ⟨b,0,none⟩=some f) (j:w.cell? ⟨b,1,none⟩=some g) (k:w.cell? ⟨c,0,none⟩=some h) (p:w.frozen? ⟨b,0,none⟩=false) (q:w.frozen? ⟨b,1,none⟩=false) (r:w.frozen? ⟨c,0,none⟩=false) (l:¬c=b):
 CallsD prog 144 #[.pointer (some ⟨b,0,none⟩),.pointer (some ⟨c,0,none⟩)] (.panicking ({ v:=.iface u d,recovered:=false}:: a)) w fun e n o=>
  e=.returned (.tuple #[])/\n=.panicking ({ v:=.iface u d,recovered:=true}:: a)/\o=((w.setCell ⟨b,0,none⟩ (.int .i64 0)).setCell ⟨b,1,none⟩ (.slice none 0 0)).setCell ⟨c,0,none⟩ (.bool false):=by
 refine callsD_of_wpS func144 rfl fun s cs m=>?_;apply wpS_seq;apply wpS_region;simp[wpOpsS,go_sem,recoverD,m,ntmps144,Exit.thenS];refine wpS_cond (t:=true) (by simp[Act.eval,Array.replicate]) ?_;simp only[Lf];apply wpS_region;simp[wpOpsS,go_sem,i,j,k,p,q,r,bodyPostS,results,results144]
theorem fg (p q:Value) (w:World):
 CallsD prog 144 #[p,q] .returning w fun e c d=>e=.returned (.tuple #[])/\c=.returning/\d=w:=by
 refine callsD_of_wpS func144 rfl fun a cs b=>?_;apply wpS_seq;apply wpS_region;simp[wpOpsS,go_sem,recoverD,b,ntmps144,Exit.thenS];refine wpS_cond (t:=false) (by simp[Act.eval,Array.replicate]) ?_;simp only[Gd,Hg];refine wpS_of_wp (wp_skip ?_);cases a
 simp_all[bodyPostS,results,results144]
theorem WO (r:Rd):∀k i (h:i<(xG r k).1.length),(xG r k).1[i].n9.size<=r.rest.size/\(xG r k).1[i].text.size<=r.rest.size
 |0,i,h=>absurd h (by simp[xG,MU])
 |k+1,i,h=>by
  simp only[tY];rw[List.getElem_append];split
  ·rename_i hh;exact WO r k i hh
  ·simp only[List.getElem_singleton,QY];have a:=Ma (gS 1 (xG r k).2) (QX r k);have b:=kK 1 (gB 1 (xG r k).2).2;have c:=kK 2 (yA 1 (gB 1 (xG r k).2).2).2;exact⟨Ma b.1 a,Ma c.1 (Ma b.2 a)⟩
theorem aEm (s:ByteArray) (c:s.size<=1000000000):aNi (lI s).1:=by
 intro i h;have a:(gN s).2.rest.size<=1000000000:=by rw[gN,qM];exact Ma (gS 2 _) (Ma (gS 8 _) c)
 have b:=WO (gN s).2 (gN s).1 i h;exact⟨Ma b.1 a,Ma b.2 a⟩
def px (s:ByteArray) (w:World) (e:Ending) (c:World):Prop:=
 ∃b a,e=.returned (.tuple #[.agg #[.int .i64 (fF s).1,.slice b (fF s).2.1.length a],.bool (fF s).2.2])/\sF c w.heap.size b (fF s).2.1/\Below w.heap.size w c
structure DB (w W:World) (l:Int) (v:Value):Prop where
 X:lA W w.heap.size #[.int .i64 l,v] 66
 Y:lA W (w.heap.size+1) #[.bool false] 4
 B:Below w.heap.size w W
theorem DB.turn {w W c:World} {S:Nat->Prop} {l:Int} {v:Value} (h:DB w W l v) (b:gA S W c) (a:∀j,S j->w.heap.size+1<j):DB w c l v:=⟨b.blk h.X fun e=>by have:=a _ e;omega,b.blk h.Y fun e=>by have:=a _ e;omega,h.B.trans (b.below h.B.size fun j d e=>by have:=a _ e;omega)⟩
theorem DB.new (w:World) (s:ByteArray):DB w (((w.alloc (.cells #[.int .i64 0,.slice none 0 0] 66)).alloc (.cells #[.bool false] 4)).alloc (.cells #[.string s,.bool false] 212)) 0 (.slice none 0 0)/\RT (((w.alloc (.cells #[.int .i64 0,.slice none 0 0] 66)).alloc (.cells #[.bool false] 4)).alloc (.cells #[.string s,.bool false] 212)) (w.heap.size+1+1) ⟨s,false⟩:=by
 have a:=(lA.new (w.alloc (.cells #[.int .i64 0,.slice none 0 0] 66)) #[.bool false] 4).alloc (.cells #[.string s,.bool false] 212);have b:=lA.new ((w.alloc (.cells #[.int .i64 0,.slice none 0 0] 66)).alloc (.cells #[.bool false] 4)) #[.string s,.bool false] 212;exact⟨⟨((lA.new _ _ _).alloc _).alloc _,by simpa using a,pA (pA (cA _ _) (cA _ _)) (cA _ _)⟩,⟨_,by simpa using b⟩⟩
theorem DB.set {w W:World} {l l':Int} {v v':Value} (h:DB w W l v):DB w ((W.setCell ⟨w.heap.size,0,none⟩ (.int .i64 l')).setCell ⟨w.heap.size,1,none⟩ v') l' v':=by
 have a:=((gA.refl (·=w.heap.size) W).setCell (Ba rfl) 0 (.int .i64 l')).setCell (Ba rfl) 1 v';exact⟨by have:=(h.X.set 0 (.int .i64 l')).set 1 v';simpa using this,a.blk h.Y (by omega),h.B.trans (a.below h.B.size fun j b e=>by omega)⟩
theorem ZG (s : ByteArray) (w : World) (hs : s.size ≤ 1000000000) : Calls prog 105 #[.string s] w fun e w' => px s w e w' := by
  have hmf : ∀ (fn : Fn) (first cap : Array Value) (w : World), (Instr.makeFunc fn first cap).run prog w = .ok (.func fn first cap) w := fun _ _ _ _ => rfl
  have HBD := bA (fun W B h => qd B s W h hs)
  have hl : (lI s).1.length < 65536 := by rw [lI, uX, gN]; exact dT 2 _
  have HEN := bA (fun W av cap (h : pK W av (lI s).1) => iu (zA (qM s).1) av cap _ W h (aEm s hs) (by omega))
  have hc : (lI s).2.r9 = true ∧ fF s = (0, [], false) ∨ (lI s).2.r9 = false ∧ (((uK (zA (qM s).1) (lI s).1).toList == s.toList) = true ∧ fF s = (zA (qM s).1, (lI s).1, true) ∨ ((uK (zA (qM s).1) (lI s).1).toList == s.toList) = false ∧ fF s = (0, [], false)) := by
    cases hsh : (lI s).2.r9 with
    | true => exact Or.inl ⟨rfl, UW hsh⟩
    | false =>
      refine Or.inr ⟨rfl, ?_⟩
      by_cases heq : uK (zA (qM s).1) (lI s).1 = s
      · exact Or.inl ⟨by simp [heq], aNp heq hsh⟩
      · refine Or.inr ⟨Bool.eq_false_iff.2 fun h => heq (dP ?_), aFd heq⟩
        simpa [ByteArray.toList_eq] using eq_of_beq h
  unfold pv at HBD
  unfold px
  have N := bA (DB.new w s)
  clear hl
  generalize fF s = D at *
  generalize uK (zA (qM s).1) (lI s).1 = EB at *
  generalize zA (qM s).1 = L at *
  generalize (lI s).1 = xs at *
  generalize (lI s).2 = rz at *
  rcases hc with⟨hsh, rfl⟩ | ⟨hsh, ⟨h1, rfl⟩ | ⟨h1, rfl⟩⟩
  all_goals
    go_enter_defers func105, ntmps105
    go_wp2_with fail
    refine(HBD.out _ (w.heap.size + 1 + 1) N.out.2).mono ?_
    rintro e w1 (⟨hs1, av, cap, rfl, ho, -, hb⟩ | ⟨hs1, rfl, hb⟩)
  all_goals first | exact absurd (hs1.symm.trans hsh) (by decide) | skip
  all_goals
    have X := bA (N.out.1.turn (gA.but hb) (fun j e => by omega))
    clear hb HBD N
  all_goals first
    | (have q := ho
       have O : Hid (sF w1 (w.heap.size + 1 + 1 + 1) av xs) := bA (by simpa using ho)
       obtain⟨y0, y1⟩ := X.out.X.c2
       have f0 := X.out.X.free
       clear ho
       go_wp2_with fail
       replace X := bA (X.out.set (l' := L) (v' := .slice av xs.length cap))
       have ht := ((gA.refl (· = w.heap.size) w1).setCell (Or.inl rfl) 0 (.int .i64 L)).setCell (Or.inl rfl) 1 (.slice av xs.length cap)
       replace O := bA (O.out.turn ht (fun g e => by omega))
       clear y0 y1 f0 ht
       generalize (w1.setCell ⟨w.heap.size, 0, none⟩ (.int .i64 L)).setCell ⟨w.heap.size, 1, none⟩ (.slice av xs.length cap) = W2 at *
       refine(HEN.out _ _ _ O.out.recs).mono ?_
       rintro e w3 ⟨rfl, hb3⟩
       replace X := bA (X.out.turn (S := fun _ => False) (gA.of hb3) (fun j e => e.elim))
       replace O := bA (O.out.later hb3)
       obtain⟨x0, x1⟩ := X.out.X.c2
       have x2 := X.out.Y.cell 0
       have f0 := X.out.X.free
       have f2 := X.out.Y.free
       clear hb3 HEN
       go_wp2_with fail)
    | skip
  rotate_left
  · refine fC (MQ _ _) ?_
    go_wp2
    refine leaves_cons (f := 144) (args := #[.pointer (some ⟨w.heap.size, 0, none⟩), .pointer (some ⟨w.heap.size + 1, 0, none⟩)]) (by simp) (by simp [go_sem]) ?_
    refine(fg _ _ _).mono ?_
    rintro e u' w'' ⟨rfl, rfl, rfl⟩
    simp [Leaves, settle, results, results105, go_sem, x0, x1, x2]
    have HT := fun a b c => (((gA.refl (· < w.heap.size + 1 + 1 + 1) w3).setCell (g := w.heap.size) (Or.inl (by omega)) 0 a).setCell (g := w.heap.size) (Or.inl (by omega)) 1 b).setCell (g := w.heap.size + 1) (Or.inl (by omega)) 0 c
    exact⟨(O.out.turn (HT _ _ _) (fun g e => e)).mono (by omega), ((X.out.B.setCell (by simp) _).setCell (by simp) _).setCell (by simp) _⟩
  refine fC (DU _ _) ?_
  all_goals
    obtain⟨x0, x1⟩ := X.out.X.c2
    have x2 := X.out.Y.cell 0
    refine leaves_cons (f := 144) (args := #[.pointer (some ⟨w.heap.size, 0, none⟩), .pointer (some ⟨w.heap.size + 1, 0, none⟩)]) (by simp) (by simp [go_sem]) ?_
    refine(YJ w.heap.size (w.heap.size + 1) _ _ _ _ _ [] _ x0 x1 x2 (X.out.X.free 0) (X.out.X.free 1) (X.out.Y.free 0) (by omega)).mono ?_
    rintro e u' w'' ⟨rfl, rfl, rfl⟩
    simp [Leaves, settle, results, results105, go_sem, x0, x1, x2]
    exact⟨Or.inl rfl, ((X.out.B.setCell (by simp) _).setCell (by simp) _).setCell (by simp) _⟩
section
open Go.Maps
structure vo (w:World) (A:Nat→Prop) (h l m:Nat) (c:nB) (s:Int×Int×List eA) (M:Nat):Prop where
 blk:lA w h #[.pointer (some ⟨l,0,none⟩),.int .i64 s.1] 87
 led:yD w A l m c s.2.1 s.2.2 M
 no:¬A h
theorem sF.turnN {w f:World} {B:Nat} {S:Nat->Prop} {a:Option Addr} {m:List dE} (h:sF w B a m) (q:gA S w f) (n:∀g,B<=g->g<w.heap.size->¬S g):sF f B a m:=by
 rcases h with h|⟨b,r,c,t,rfl,k,e,d⟩
 ·exact Ba h
 ·have l:=q.block b (aA e) (n b k (aA e));have o:∀j,f.cell? ⟨b,j,none⟩=w.cell? ⟨b,j,none⟩:=fun j=>World.cell?_of_block l;exact Ea ⟨b,r,c,t,rfl,k,l.trans e,fun i p=>by simp only[o];exact d i p⟩
theorem aOo {a:List dE} (h:fE a<=1048576):∀r∈a,r.n9.size<=1048576/\r.text.size<=1048576:=fun r c=>by
 obtain⟨i,b,rfl⟩:=Gb c;have d:=EO a i b;have e:=LZ a (i+1);omega
theorem aJw {C:World->Prop} {w:World} {cs:Array Value} {t:TypeId} (k:∀W,Below w.heap.size w W->lA W w.heap.size cs t->C W):C (w.alloc (.cells cs t)):=k _ (cA _ _) (lA.new w _ _)
def In2 (A:Nat->Prop) (w a:World) (g:Nat):Prop:=A g/\g<w.heap.size\/a.heap.size<=g
def qa (A:Nat->Prop) (h l m:Nat) (c:nB) (M:Nat) (V:Option (Int×Int×List eA)) (w:World) (e:Ending) (a:World):Prop:=e=.returned (.bool V.isSome)/\(∀q,V=some q->vo a A h l m c q M)/\gA (fun g=>A g\/g=h) w a
theorem uk {A:Nat->Prop} {h l m:Nat} {c:nB} {M:Nat} {V:Option (Int×Int×List eA)} {w b:World} (E:V=none) (d:gA (fun g=>A g\/g=h) w b):qa A h l m c M V w (.returned (.bool false)) b:=⟨by rw[E];rfl,fun q a=>(by rw[E]at a;cases a),d⟩
theorem um (h l m:Nat) (c:nB) (s:Int×Int×List eA) (M:Nat) (A:Nat->Prop) (p:ByteArray) (u w:World) (H:vo w A h l m c s M) (hb:Below u.heap.size u w) (hA:∀g,w.heap.size<=g->A g) (Z:∀g,A g->u.heap.size<=g) (hU:dF u) (I:iB c s.2.1 s.2.2=true) (b0:s.2.2.length+nA s.2.2+p.size<=1048576) (hl:0<=s.1/\s.1<=1000000000000000) (a0:1<=M) (hM:M<=900000000):
 Calls prog 66 #[.pointer (some ⟨h,0,none⟩),.string p] w fun e w'=>qa A h l m c (M+p.size) (yX c s p) w e w':=by
 obtain⟨b,nw,ts⟩:=s;dsimp only at I b0 hl;have k:=bA (fun W=>ZG p W (by omega));unfold px at k;have O:=bA (aId c b nw ts p);have HL:=bA (fun h=>NW (s:=p) h);have N:=bA H;have HA:=bA hA;have hw1:IntKind.i64.wrap (b+1)=b+1:=by rw[IntKind.wrap_i64];omega
 have hh:=aA H.blk;have U:=bA (fun W (hW:Below w.heap.size w W) Q d j (hr:sF W w.heap.size Q j) (h1:j.length<=500) (n:12*j.length+fE j<=p.size) (t:World) (o:Below W.heap.size W t)=>
  YE l m Q d j c nw ts M (In2 A w t) u t (H.led.re fun g S hs=>⟨(pA hW o).block g S,Ba ⟨hs,S⟩⟩) (hb.trans ((pA hW o).mono hb.size)) (fun g S=>Ea S) (fun g S=>S.elim (fun x=>Z g x.1) (fun x=>Ma hb.size (Ma (pA hW o).size x))) (fun X hX=>((hr.later o).turnN hX (fun g h1 n e=>by rcases e with e|e;exact absurd e.2 (by omega);omega)).recs) hU I h1 (by omega) (aOo (by omega)) a0 hM)
 clear I b0 hU hb hA Z a0 hM;generalize yX c (b,nw,ts) p=V at *;generalize hD:fF p=DD at *;obtain⟨R,j,ok⟩:=DD;dsimp only at k O HL;generalize hRV:xE c nw ts j=RV at *;go_enter func66,ntmps66;go_wp2_with fail;refine(k.out w).mono ?_;rintro e w1 ⟨Q,d,rfl,z,f⟩;have hz1:=f.size;go_upto_region 2 with fail;refine aJw (C:=fun W=>Code.wp prog _ _ _ W) ?_;intro t r K;have P:=bA K;have F:=bA (N.out.blk.later (pA f r));have L:=aA K;have y:=bA (pA f r);have Y:=bA (U.out _ f Q d j z);have B:=bA r;clear z f r K U k;generalize w1.heap.size=bx at *;have x0:t.cell? ⟨bx,0,none⟩=some (.int .i64 R):=P.out.cell 0;have x1:t.cell? ⟨bx,1,none⟩=some (.slice Q j.length d):=P.out.cell 1;have y0:t.cell? ⟨h,0,none⟩=some (.pointer (some ⟨l,0,none⟩)):=F.out.cell 0;have T:t.cell? ⟨h,1,none⟩=some (.int .i64 b):=F.out.cell 1;have q0:=oA.cells x0;have q1:=oA.cells T;have G:=oA.there t;rcases O.out with⟨rfl,E⟩|⟨rfl,⟨h1,E⟩|⟨h1,E⟩⟩
 ·replace E:=bA E;clear O q0 q1 G;go_wp2;go_ret;exact uk E.out (gA.of y.out)
 ·replace E:=bA E;clear O;go_wp2_with fail;refine jA (by kernel_rfl) (by kernel_rfl) ?_;repeat (go_big_quiet_step (fail))
  refine wpQuiet_nil ?_;rintro _ ⟨x,rfl⟩;have a:=bA (pA y.out x.h);go_wp2;go_ret;refine⟨by rw[E.out];rfl,fun q hq=>?_,gA.of a.out⟩;rw[E.out]at hq;cases hq
  exact⟨N.out.blk.later a.out,(N.out.led.later a.out).mono (A2 _ _),N.out.no⟩
 go_wp2_with fail;refine jA (by kernel_rfl) (by kernel_rfl) ?_;repeat (go_big_quiet_step (fail))
 refine wpQuiet_nil ?_;rintro v ⟨⟨_,a⟩,rfl⟩;replace P:=bA (P.out.later a);replace F:=bA (F.out.later a);replace y:=bA (pA y.out a);replace B:=bA (B.out.trans (a.mono (Ke L)));replace L:=Ab L a.size;clear q0 q1 G x0 x1 y0 T a;have x0:v.cell? ⟨bx,0,none⟩=some (.int .i64 R):=P.out.cell 0;have x1:v.cell? ⟨bx,1,none⟩=some (.slice Q j.length d):=P.out.cell 1;have y0:v.cell? ⟨h,0,none⟩=some (.pointer (some ⟨l,0,none⟩)):=F.out.cell 0;have T:v.cell? ⟨h,1,none⟩=some (.int .i64 b):=F.out.cell 1;rcases E with⟨n,E⟩|⟨n,E⟩
 ·replace E:=bA E;have g0:(R != b+1)=true:=by simpa using n
  have g1:decide (R=b+1)=false:=by simpa using n
  have q0:=oA.cells x0;have q1:=oA.cells T;have G:=oA.there v;clear O;go_wp2_with fail;refine jA (by kernel_rfl) (by kernel_rfl) ?_;repeat (go_big_quiet_step (fail))
  refine wpQuiet_nil ?_;rintro _ ⟨x,rfl⟩;have a:=bA (pA y.out x.h);go_wp2;go_ret;exact uk E.out (gA.of a.out)
 ·obtain⟨_,hl5,hsz,_⟩:=HL.out trivial;replace Y:=bA (Y.out hl5 (by omega) v.drew B.out.drew);rw[hRV]at Y;have g0:(R != b+1)=false:=by simpa using n
  have g1:decide (R=b+1)=true:=by simpa using n
  have HE:=bA E;have hbl:=n.symm;subst hbl;clear O E HL n;go_wp2_with fail;refine sE 15 (by kernel_rfl) (by kernel_rfl) ?_;simp only[Nd,Ue,Od,Vc];have hnel:Nonempty Unit:=⟨()⟩
  repeat (go_big_quiet_step (fail))
  refine wpQuiet_nil ?_;go_wp2_with fail;refine Y.out.mono ?_;rintro e w4 ⟨rfl,c0,J⟩;obtain⟨n5,t5,b5⟩:=RV;have d0:¬In2 A w v.drew h:=fun e=>e.elim (fun x=>N.out.no x.1) (fun x=>by have:=y.out.size;have:v.heap.size<=h:=x;omega);have Y4:=bA (J.blk (show lA v.drew _ _ _ from F.out) d0);have T4:Hid (gA (fun g=>A g\/g=h) w w4):=(gA.of y.out.drew).trans' (J.mono fun i hi e=>Ba (e.elim Me fun x=>absurd hi (Nat.not_lt.2 x)));have D:=bA c0;clear c0 J x0 x1 y0 T Y;cases b5 with
  |false=>
   have E:Hid (V=none):=HE.out.elim Zg (fun x=>nomatch x.1);clear HE D;go_wp2;go_ret;exact uk E.out T4.out
  |true=>
   have E:Hid (V=some (b+1,n5,t5)):=HE.out.elim (fun x=>nomatch x.1) Zg;have HL5:=bA (D.out rfl);have T:w4.cell? ⟨h,1,none⟩=some (.int .i64 b):=Y4.out.cell 1;have y2:=Y4.out.free 1;clear HE D;go_wp2;go_ret;refine⟨by rw[E.out];rfl,fun q hq=>?_,T4.out.setCell (Ba (Ea rfl)) 1 _⟩;rw[E.out]at hq;cases hq
   refine⟨by have:=Y4.out.set 1 (.int .i64 (b+1));simpa using this,?_,N.out.no⟩;exact(HL5.out.re fun g _ hs=>⟨Below.heap_setCell _ _ _ _ (fun e=>by rw[e]at hs;exact d0 hs),hs.elim Me (fun x=>HA.out g (Ma y.out.size x))⟩).mono (by omega)
end
section
open Go.Maps
def nDk (w:World) (g:Nat):Prop:=∀a t,w.heap[g]?=some (.cells a t (0,0))->t≠98/\t≠138/\t≠76
theorem DV {w:World} {g:Nat} {a:Array Value} {t:TypeId} (h:lA w g a t) (d:t≠98/\t≠138/\t≠76):nDk w g:=fun b f c=>by
 have e:=Qc ((show w.heap[g]?=_ from h).symm.trans c);cases e;exact d
theorem MR {H:Type} {w:World} {P:Program} {k:TypeId} {R:Value->Option (DataW H×List MemPlace)} {m n:Nat} {D:DataW H} (h:w.ownsMap P k R m n D):nDk w m:=fun c t b=>by
 obtain⟨e,a,d,r⟩:=h;rw[d]at b;cases b
theorem vL.at {w b:World} (k:vL w b) {g:Nat} (d:g<w.heap.size) (h:nDk w g):b.heap[g]?=w.heap[g]?:=by
 have e:w.heap[g]?=some w.heap[g]:=Fc d;rw[e];exact k g _ e fun a t c=>h a t (by rw[e,c])
theorem yD.apart {w t:World} {B:Nat->Prop} {l m:Nat} {c:nB} {i:Int} {s:List eA} {M:Nat} (h:yD w B l m c i s M) (k:vL w t):yD t (fun g=>B g/\g<w.heap.size/\nDk w g) l m c i s M:=by
 obtain⟨T,L,h,e⟩:=h;refine⟨T,L,{ h with blk:=k.blk h.blk (by decide),ten:=k.map h.ten,idx:=fun p x=>?_,lB:=⟨h.lB,aA h.blk,DV h.blk (by decide)⟩,mB:=⟨h.mB,h.ten.lt,MR h.ten⟩ },e⟩;obtain⟨A,C,u,z,Q,y,D,h⟩:=h.idx p x;refine⟨A,C,u,z,Q,y,D,{ h with blk:=k.blk h.blk (by decide),lims:=k.map h.lims,s9:=k.map h.s9,cnts:=k.map h.cnts,cells:=fun q b=>k.blk (h.cells q b) (by decide),row:=⟨h.row.1,?_⟩,sx:=⟨⟨h.sx.1,aA h.blk,DV h.blk (by decide)⟩,h.sx.2⟩,sl:=⟨⟨h.sl.1,h.lims.lt,MR h.lims⟩,h.sl.2⟩,ss:=⟨⟨h.ss.1,h.s9.lt,MR h.s9⟩,h.ss.2⟩,sc:=⟨⟨h.sc.1,h.cnts.lt,MR h.cnts⟩,h.sc.2⟩,sq:=fun q b=>⟨⟨(h.sq q b).1,aA (h.cells q b),DV (h.cells q b) (by decide)⟩,(h.sq q b).2⟩,si:=fun g a=>?_}⟩
 ·rcases h.row.2 with n|⟨g,d,f,e,o,j,r⟩
  ·exact Ba n
  ·exact Ea ⟨g,d,f,e,o,k.blk j (by decide),r⟩
 ·rcases h.row.2 with⟨n,_⟩|⟨v,d,f,e,o,j,r⟩
  ·rw[n]at a;cases a
  ·have:v=g:=by rw[e]at a;simpa[Value.ownBlock]using a
   subst this;exact⟨⟨(h.si _ a).1,aA j,DV j (by decide)⟩,(h.si _ a).2⟩
theorem bQ.turnA {f w i:World} {B P D:Nat} {K:kB} {L:zH} {S:Nat->Prop} (h:bQ f w B P D K L) (c:gA S w i) (j:∀g,S g->f.heap.size<=g) (d:∀g,S g->∀b t,lA w g b t->t≠98/\t≠138/\t≠76):bQ f i B P D K L:=by
 obtain⟨v,a⟩:=h.drive;refine⟨h.pow,h.below.trans (c.below h.below.size fun k n e=>by have:=j k e;omega),h.hB,h.hP,c.blk h.wr fun e=>(d _ e _ _ h.wr).2.2 rfl,⟨v,a.from',c.blk a.blk fun e=>(d _ e _ _ a.blk).2.1 rfl,c.row a.row fun g m e=>?_,a.apart⟩,h.valid⟩;obtain⟨b,l⟩:=iU a.row g m;exact(d _ e _ _ l).1 rfl
theorem aMn {w:World} {B:Nat} {a:Option Addr} {c:Nat} {b:List ByteArray} (h:w.ownsRow B 9 1 (.slice a b.length c) b.length (b.map Value.string)) {j:Nat} (l:j<b.length):∃g,a=some ⟨g,0,none⟩/\g<w.heap.size/\w.cell? ⟨g,j,none⟩=some (.string b[j]):=by
 rcases h.2 with⟨_,i⟩|⟨g,f,m,e,r,k,o,p,q,n⟩
 ·simp at i;subst i;exact absurd l (by simp)
 ·simp only[Value.slice.injEq]at e;refine⟨g,e.1,aA k,?_⟩;rw[lA.cell k];have d:=Zc (·[j]?) n;simp only[Jd,Ka l,Option.map_some]at d;rw[Eb (by omega)]at d;simpa using d
theorem aMm {w:World} {B:Nat} {a:Option Addr} {c:Nat} {b:List ByteArray} (h:w.ownsRow B 9 1 (.slice a b.length c) b.length (b.map Value.string)):b.length<=maxLen:=by
 rcases h.2 with⟨_,f⟩|⟨g,d,i,e,l,m,j,k,_⟩
 ·simp at f;subst f;exact Ha _
 ·omega
theorem aKj {c:List eA} (h:c.length+nA c<=1048576):aPh c:=fun t k=>by
 obtain⟨i,g,rfl⟩:=Gb k;have d:=rR c i g;have f:=vU c (i+1);have e:∀(b:List fA) j (a:j<b.length),b[j].s.size<=wC b:=fun b j a=>by have d:=rL b j a;have f:=oN b (j+1);omega
 unfold jE at d;unfold maxLen;exact⟨by omega,fun j a=>by have:=e _ j a;omega,fun j a=>by have:=e _ j a;omega,by omega,by omega⟩
theorem gy {x:Nat} (h:x<=6\/x=20\/x=21):fu x/\aZ x=GX x:=by
 rcases h with h|rfl|rfl
 ·exact⟨Ba h,by rw[dQ h,aAi h]⟩
 ·exact⟨Ea (Ba rfl),rfl⟩
 ·exact⟨Ea (Ea (Ba rfl)),rfl⟩
def eg (h:Nat) (b a c:World) (g:Nat):Prop:=(b.heap.size<=g/\g≠h)/\g<a.heap.size/\nDk a g\/c.heap.size<=g
theorem eg.ok {h:Nat} {m d e:World} {cs:Array Value} (i:vL d e) (k:lA d h cs 87) {g:Nat} (l:eg h m d e g\/g=h) (a:Array Value) (t:TypeId) (c:lA e g a t):t≠98/\t≠138/\t≠76:=by
 rcases l with j|b
 ·rcases j with⟨_,b,f⟩|b
  ·exact f a t ((i.at b f).symm.trans c)
  ·have:=aA c;omega
 ·subst b;exact DV (i.blk k (by decide)) (by decide) a t c
def GI (c:nB) (f:World) (B P D:Nat) (R:kB×zH×(Int×Int×List eA) ×Nat) (e:Ending) (d:World):Prop:=
 ∃(b:Value) (a:zH),e=.returned (.tuple #[b,GX R.2.2.2])/\fu R.2.2.2/\bQ f d B P D R.1 a/\(R.2.2.2=0->a=R.2.1/\R.2.2.1.2.2.length+nA R.2.2.1.2.2<=1048576/\∃h l m A M,b=.pointer (some ⟨h,0,none⟩)/\vo d A h l m c R.2.2.1 M)
theorem RA {c:nB} {b a:World} {B P D:Nat} {R:kB×zH×(Int×Int×List eA) ×Nat} {K:kB} {L:zH} {x:Nat} {v:Value} (E:R=(K,iD,(0,0,[]),x)) (g:x≠0) (d:fu x) (h:bQ b a B P D K L) (f:v=GX x):GI c b B P D R (.returned (.tuple #[.pointer none,v])) a:=by
 subst f;rw[E];exact⟨_,L,rfl,d,h,fun e=>absurd e g⟩
theorem uo {n w:World} {B P D:Nat} {K:kB} (c:nB) (h:bQ n w B P D K iD) (Q:oH n) (N:dF n) (O:vF c=true) (S:xA K.fs<=1048576) (g:K.dn=true\/(fB K).2≠0\/(tP c (fB K).1).2.2.2=false):
 Calls prog 29 #[.pointer (some ⟨P,0,none⟩),tE c] w fun e w'=>GI c n B P D (kR c K) e w':=by
 have G:w.cell? ⟨D,3,none⟩=some (.bool K.dn):=by obtain⟨v,I⟩:=h.drive;exact I.blk.cell 3
 have a0:D<w.heap.size:=by obtain⟨v,I⟩:=h.drive;exact aA I.blk
 have b0:=aA h.wr;obtain⟨Z,_,_,_⟩:=h.wr.cells;have F:=bA h;have f:=bA (show oH n/\dF n/\vF c=true from⟨Q,N,O⟩);have l:=bA S;have j:=bA (fun hd=>vQ h.valid (show K.dn=false from hd));clear h Q N O S;unfold tE at *;cases hdn:K.dn with
 |true=>
  rw[hdn]at G;have E:=bA (show kR c K=(K,iD,(0,0,[]),1) from Ga hdn);clear hdn j l f;generalize kR c K=R at *;go_enter func29,ntmps29;go_wp2;go_ret2;exact RA E.out (by decide) (Ba (by decide)) (F.out.later (cA _ _)) rfl
 |false=>
  rw[hdn]at G;obtain⟨b,J,m,y⟩:=j.out hdn;have E:=bA (show kR c K=if (fB K).2≠0 then((fB K).1,iD,(0,0,[]),(fB K).2)
   else if (tP c (fB K).1).2.2.2=false then((fB K).1,iD,(0,0,[]),62)
   else if (cD (fB K).1).2.2.2≠0 then((cD (fB K).1).1,iD,(0,0,[]),(cD (fB K).1).2.2.2)
   else aIe (cD (fB K).1).1 (cD (fB K).1).2.1 (nU c ((tP c (fB K).1).1,(tP c (fB K).1).2.1,(tP c (fB K).1).2.2.1) (cD (fB K).1).2.2.1) from Ca (by rw[hdn];decide))
  have k:=bA (fun W (hW:Below w.heap.size w W)=>GW (F.out.later hW));have r:=bA (Ma y l.out);replace g:=g.resolve_left (by rw[hdn];decide);generalize kR c K=R at *;generalize fB K=U at *;obtain⟨M,L⟩:=U;dsimp only at b J m r k;have a:=bA g;clear y j hdn l g;go_enter func29,ntmps29;go_wp2_with fail;have u:=cA w (.cells #[.int .i64 c.w,.int .i64 c.tl,.int .i64 c.ml,.int .i64 c.sh,.int .i64 c.ha,.int .i64 c.sg] 40);refine(k.out _ u).mono ?_;rintro e o ⟨rfl,z,x⟩;have A:=bA z;have i:=bA (x.blk (lA.new w #[.int .i64 c.w,.int .i64 c.tl,.int .i64 c.ml,.int .i64 c.sh,.int .i64 c.ha,.int .i64 c.sg] 40) (by decide) (by decide));clear z x u k F Z G;by_cases C:L=0;rotate_left
  ·obtain⟨t,H⟩:=OM C b;have p:=bA (E.out.trans (Ga C));have X:=bA H;rw[H];clear H E a;go_wp2;go_ret2;exact RA p.out C (Ba b) A.out (by rw[dQ b,X.out];rfl)
  subst C;replace a:=bA (a.out.resolve_left (by simp));have hd2:=m rfl;have p:=bA (E.out.trans (Ca (by simp)));have d:=bA (YM c A.out f.out.2.2 r.out (f.out.2.1.later A.out.below));unfold dy tE at d;have q:=bA (sT (K:=M) f.out.2.2);generalize tP c M=T at *;obtain⟨ls,nw,ts,ok⟩:=T;dsimp only at p d q a;clear E m b;simp only[iG];have x0:o.cell? ⟨w.heap.size,0,none⟩=some (.int .i64 c.w):=i.out.cell 0;have L:o.cell? ⟨w.heap.size,1,none⟩=some (.int .i64 c.tl):=i.out.cell 1;have x2:o.cell? ⟨w.heap.size,2,none⟩=some (.int .i64 c.ml):=i.out.cell 2;have x3:o.cell? ⟨w.heap.size,3,none⟩=some (.int .i64 c.sh):=i.out.cell 3;have x4:o.cell? ⟨w.heap.size,4,none⟩=some (.int .i64 c.ha):=i.out.cell 4;have x5:o.cell? ⟨w.heap.size,5,none⟩=some (.int .i64 c.sg):=i.out.cell 5;go_wp2_with fail;refine d.out.mono ?_;rintro e w2 ⟨ho,s⟩;have Y:=bA (A.out.later s);clear x0 L x2 x3 x4 x5 i d;rcases ho with⟨rfl,rfl⟩|⟨rfl,_⟩
  rotate_left
  ·cases a.out
  have V:=bA (p.out.trans (Ga rfl));rw[show GX 62=.iface 139 (.string cw) from rfl];clear p q s;go_wp2;go_ret2;exact RA V.out (by decide) (Ea (Ea (Ea (Ba rfl)))) Y.out rfl
theorem mx {o w:World} {B P D:Nat} {K:kB} (c:nB) (h:bQ o w B P D K iD) (he:oH o) (hU:dF o) (hc:vF c=true) (hs:xA K.fs<=1048576) (hdn:K.dn=false) (S:(fB K).2=0) (I:(tP c (fB K).1).2.2.2=true) (J:(cD (fB K).1).2.2.2≠0):
 Calls prog 29 #[.pointer (some ⟨P,0,none⟩),tE c] w fun e w'=>GI c o B P D (kR c K) e w':=by
 have d3:w.cell? ⟨D,3,none⟩=some (.bool K.dn):=by obtain⟨v,hv⟩:=h.drive;exact hv.blk.cell 3
 have hDl:D<w.heap.size:=by obtain⟨v,hv⟩:=h.drive;exact aA hv.blk
 have hPl:=aA h.wr;obtain⟨c0,_,_,_⟩:=h.wr.cells;have HW:=bA h;have b:=bA (show oH o/\dF o/\vF c=true from⟨he,hU,hc⟩);have u:=bA hs;have q:=bA (fun hd=>vQ h.valid (show K.dn=false from hd));clear h he hU hc hs;unfold tE at *;rw[hdn]at d3;obtain⟨T,M,j,L⟩:=q.out hdn;have E:=bA (show kR c K=if (fB K).2≠0 then((fB K).1,iD,(0,0,[]),(fB K).2)
  else if (tP c (fB K).1).2.2.2=false then((fB K).1,iD,(0,0,[]),62)
  else if (cD (fB K).1).2.2.2≠0 then((cD (fB K).1).1,iD,(0,0,[]),(cD (fB K).1).2.2.2)
  else aIe (cD (fB K).1).1 (cD (fB K).1).2.1 (nU c ((tP c (fB K).1).1,(tP c (fB K).1).2.1,(tP c (fB K).1).2.2.1) (cD (fB K).1).2.2.1) from Ca (by rw[hdn];decide))
 have i:=bA (fun W (hW:Below w.heap.size w W)=>GW (HW.out.later hW));have x:=bA (Ma L u.out);generalize kR c K=R at *;have y:=bA S;have d:=bA I;have s:=bA J;clear S I J;generalize fB K=DK at *;obtain⟨V,x1⟩:=DK;dsimp only at T M j x i;clear L q hdn u;go_enter func29,ntmps29;go_wp2_with fail;have A:=cA w (.cells #[.int .i64 c.w,.int .i64 c.tl,.int .i64 c.ml,.int .i64 c.sh,.int .i64 c.ha,.int .i64 c.sg] 40);refine(i.out _ A).mono ?_;rintro e p ⟨rfl,N,G⟩;have Y:=bA N;have f:=bA (G.blk (lA.new w #[.int .i64 c.w,.int .i64 c.tl,.int .i64 c.ml,.int .i64 c.sh,.int .i64 c.ha,.int .i64 c.sg] 40) (by decide) (by decide));clear N G A i HW c0 d3;have n:=y.out;clear y;(try dsimp only at n);(try dsimp only at d);subst n;have a0:=j rfl;have k:=bA (E.out.trans (Ca (by simp)));have a:=bA (YM c Y.out b.out.2.2 x.out (b.out.2.1.later Y.out.below));unfold dy tE at a;have g:=bA (sT (K:=V) b.out.2.2);have X:=bA (EC M a0);have r:=bA (QQ V);generalize tP c V=CK at *;obtain⟨ls,nw,ts,ok⟩:=CK;dsimp only at k a g;(try dsimp only at d);clear E j T;simp only[iG];have x0:p.cell? ⟨w.heap.size,0,none⟩=some (.int .i64 c.w):=f.out.cell 0;have x1:p.cell? ⟨w.heap.size,1,none⟩=some (.int .i64 c.tl):=f.out.cell 1;have x2:p.cell? ⟨w.heap.size,2,none⟩=some (.int .i64 c.ml):=f.out.cell 2;have x3:p.cell? ⟨w.heap.size,3,none⟩=some (.int .i64 c.sh):=f.out.cell 3;have x4:p.cell? ⟨w.heap.size,4,none⟩=some (.int .i64 c.ha):=f.out.cell 4;have x5:p.cell? ⟨w.heap.size,5,none⟩=some (.int .i64 c.sg):=f.out.cell 5;go_wp2_with fail;refine a.out.mono ?_;rintro e w2 ⟨ho,z⟩;have W2:=bA (Y.out.later z);clear x0 x1 x2 x3 x4 x5 f a;rcases ho with⟨e,_⟩|⟨rfl,h,l,m,rfl,hlo,Z,H⟩
 ·rw[d.out]at e;cases e
 clear d;replace k:=bA (k.out.trans (Ca (by simp)));obtain⟨hck1,hck2,hck3⟩:=g.out rfl;have U:=bA (XX W2.out b.out.1);unfold YB at U;clear g Z H z;generalize cD V=O at *;obtain⟨K2,L2,all,x2⟩:=O;dsimp only at U X r k s;go_wp2_with fail;refine U.out.mono ?_;rintro e w3 ⟨sl,Lw,rfl,Q,b0,h0⟩;have W3:=bA Q;clear Q b0 U W2;obtain⟨C,F⟩:=gy r.out.1;have n:=s.out;obtain⟨t,ht⟩:=OL C n;have E3:=bA (k.out.trans (Ga n));have HT:=bA ht;rw[F,ht];clear ht k h0 F;go_wp2;go_ret2;exact RA E3.out n C W3.out (by rw[HT.out];rfl)
theorem my {H w:World} {B P D:Nat} {K:kB} (c:nB) (h:bQ H w B P D K iD) (he:oH H) (hU:dF H) (hc:vF c=true) (hs:xA K.fs<=1048576) (hdn:K.dn=false) (hx1:(fB K).2=0) (hok:(tP c (fB K).1).2.2.2=true) (hop:(cD (fB K).1).2.2.2=0):
 Calls prog 29 #[.pointer (some ⟨P,0,none⟩),tE c] w fun e w'=>GI c H B P D (kR c K) e w':=by
 have d3:w.cell? ⟨D,3,none⟩=some (.bool K.dn):=by obtain⟨v,hv⟩:=h.drive;exact hv.blk.cell 3
 have hDl:D<w.heap.size:=by obtain⟨v,hv⟩:=h.drive;exact aA hv.blk
 have hPl:=aA h.wr;obtain⟨c0,_,_,_⟩:=h.wr.cells;have HW:=bA h;have d:=bA (show oH H/\dF H/\vF c=true from⟨he,hU,hc⟩);have HS0:=bA hs;have HDS:=bA (fun hd=>vQ h.valid (show K.dn=false from hd));clear h he hU hc hs;unfold tE at *;rw[hdn]at d3;obtain⟨hx6,hv1,X,hsl⟩:=HDS.out hdn;have E:=bA (show kR c K=if (fB K).2≠0 then((fB K).1,iD,(0,0,[]),(fB K).2)
  else if (tP c (fB K).1).2.2.2=false then((fB K).1,iD,(0,0,[]),62)
  else if (cD (fB K).1).2.2.2≠0 then((cD (fB K).1).1,iD,(0,0,[]),(cD (fB K).1).2.2.2)
  else aIe (cD (fB K).1).1 (cD (fB K).1).2.1 (nU c ((tP c (fB K).1).1,(tP c (fB K).1).2.1,(tP c (fB K).1).2.2.1) (cD (fB K).1).2.2.1) from Ca (by rw[hdn];decide))
 have L:=bA (fun W (hW:Below w.heap.size w W)=>GW (HW.out.later hW));have k:=bA (Ma hsl HS0.out);generalize kR c K=R at *;have HX1:=bA hx1;have y:=bA hok;have Q:=bA hop;clear hx1 hok hop;generalize fB K=DK at *;obtain⟨K1,x1⟩:=DK;dsimp only at hx6 hv1 X k L;clear hsl HDS hdn HS0;go_enter func29,ntmps29;go_wp2_with fail;have hbc:=cA w (.cells #[.int .i64 c.w,.int .i64 c.tl,.int .i64 c.ml,.int .i64 c.sh,.int .i64 c.ha,.int .i64 c.sg] 40);refine(L.out _ hbc).mono ?_;rintro e r ⟨rfl,hw1,hk1⟩;have W1:=bA hw1;have I:=bA (hk1.blk (lA.new w #[.int .i64 c.w,.int .i64 c.tl,.int .i64 c.ml,.int .i64 c.sh,.int .i64 c.ha,.int .i64 c.sg] 40) (by decide) (by decide));clear hw1 hk1 hbc L HW c0 d3;have hx:=HX1.out;clear HX1;(try dsimp only at hx);(try dsimp only at y);subst hx;have hd2:=X rfl;have Z:=bA (E.out.trans (Ca (by simp)));have t:=bA (YM c W1.out d.out.2.2 k.out (d.out.2.1.later W1.out.below));unfold dy tE at t;have J:=bA (sT (K:=K1) d.out.2.2);have z:=bA (EC hv1 hd2);have N:=bA (QQ K1);generalize tP c K1=CK at *;obtain⟨ls,nw,ts,ok⟩:=CK;dsimp only at Z t J;(try dsimp only at y);clear E X hx6;simp only[iG];have x0:r.cell? ⟨w.heap.size,0,none⟩=some (.int .i64 c.w):=I.out.cell 0;have x1:r.cell? ⟨w.heap.size,1,none⟩=some (.int .i64 c.tl):=I.out.cell 1;have x2:r.cell? ⟨w.heap.size,2,none⟩=some (.int .i64 c.ml):=I.out.cell 2;have x3:r.cell? ⟨w.heap.size,3,none⟩=some (.int .i64 c.sh):=I.out.cell 3;have x4:r.cell? ⟨w.heap.size,4,none⟩=some (.int .i64 c.ha):=I.out.cell 4;have x5:r.cell? ⟨w.heap.size,5,none⟩=some (.int .i64 c.sg):=I.out.cell 5;go_wp2_with fail;refine t.out.mono ?_;rintro e w2 ⟨ho,hb2⟩;have W2:=bA (W1.out.later hb2);clear x0 x1 x2 x3 x4 x5 I t;rcases ho with⟨e,_⟩|⟨rfl,h,l,m,rfl,hlo,U,G⟩
 ·rw[y.out]at e;cases e
 clear y;replace Z:=bA (Z.out.trans (Ca (by simp)));obtain⟨hck1,C,F⟩:=J.out rfl;have HO:=bA (XX W2.out d.out.1);unfold YB at HO;have u:=bA U;have HLD:=bA G;have hhl:=aA U;clear J U G hb2;generalize cD K1=O at *;obtain⟨K2,L2,b,x2⟩:=O;dsimp only at HO z N Z Q;go_wp2_with fail;refine HO.out.mono ?_;rintro e w3 ⟨sl,Lw,rfl,hw3,hk3,h0⟩;have W3:=bA hw3;have K3:=bA hk3;clear hw3 hk3 HO W2;obtain⟨hcn,hew⟩:=gy N.out.1;have hx:=Q.out;clear Q;subst hx;obtain⟨rfl,a,cap,rfl,o⟩:=h0 rfl;have E3:=bA (Z.out.trans (Ca (by simp)));have T:=bA o;have hal:=aMm o;unfold maxLen at hal;have HI0:=bA (show iB c nw ts=true/\ts.length+nA ts+aN b<=1048576/\(0<=ls/\ls<=1000000000000000)/\1<=1100000/\1100000+aN b<=3000000 from⟨C,by have:=z.out;have:=k.out;omega,F,by decide,by have:=z.out;have:=k.out;omega⟩);rw[show aZ 0=.nilIface from rfl];clear Z h0 hew hck1 C F z N o hcn;have hw01:=W1.out.below.size;have HS:=bA (show ∀g,eg h r w2 w3 g\/g=h->H.heap.size<=g from fun g e=>by
  rcases e with(e|e)|e
  ·have:=e.1.1;omega
  ·have:=W3.out.below.size;omega
  ·omega)
 have HU:=bA d.out.2.1;clear d hw01 hlo W1 k;go_wp2_with fail;go_loopw [11,45] (fun _ i wr=>∃(j:Nat) (s:Int×Int×List eA) (M:Nat),j<=b.length/\i=.int .i64 j/\Hid (vo wr (eg h r w2 w3) h l m c s M)/\Hid (gA (fun g=>eg h r w2 w3 g\/g=h) w3 wr)/\Hid (iB c s.2.1 s.2.2=true/\s.2.2.length+nA s.2.2+aN (b.drop j)<=1048576/\(0<=s.1/\s.1<=1000000000000000)/\1<=M/\M+aN (b.drop j)<=3000000)/\Hid (nU c s (b.drop j)=nU c (ls,nw,ts) b)) (fun _ i _=>b.length-(intOf i).toNat)
 case atStart=>
  exact⟨0,(ls,nw,ts),1100000,Ha _,rfl,⟨K3.out.blk u.out (by decide),(HLD.out.apart K3.out).re fun g _ hs=>⟨rfl,Ba hs⟩,fun e=>e.elim (fun x=>x.1.2 rfl) (fun x=>by have:=aA (K3.out.blk u.out (by decide));omega)⟩,gA.refl _ _,HI0.out,rfl⟩
 case round=>
  obtain⟨j,s,M,hj,rfl,HH,HT,HI,HR⟩:=hrel;have WR:=bA (W3.out.turnA HT.out HS.out (fun g e=>eg.ok K3.out u.out e));by_cases Y:j<b.length
  ·have hdr:=XM Y;obtain⟨i1,i2,i3,i4,i5⟩:=HI.out;have A:=HT.out.row T.out (fun g hg e=>by
    have h1:=oI T.out g hg;have h2:=az T.out g hg;rcases e with(e|e)|e
    ·have:=e.2.1;omega
    ·omega
    ·omega)
   obtain⟨g,rfl,hgl,n⟩:=aMn A Y;have f:=bA (um h l m c s M (eg h r w2 w3) b[j] H wr HH.out WR.out.below (fun g hg=>Ea (Ma HT.out.size hg)) (fun g hg=>HS.out g (Ba hg)) HU.out i1 (by omega) i3 i4 (by omega));have HRI:=bA (fun q (hq:yX c s b[j]=some q)=>ay hq i1 i3);have S:=bA (WV (c:=c) (s:=s) Y);clear A;unfold qa at f;generalize b[j]=py at *;generalize yX c s py=V at *;cases V with
   |none=>
    have E4:=bA (show R=(K2,iD,(0,0,[]),63) from E3.out.trans (by rw[<-HR.out,S.out];rfl));go_wp2_with fail;refine f.out.mono ?_;rintro e w5 ⟨rfl,_,p⟩;have W5:=bA (W3.out.turnA (HT.out.trans' p) HS.out (fun g e=>eg.ok K3.out u.out e));clear p n f;go_wp2;go_ret2;exact RA E4.out (by decide) (Ea (Ea (Ea (Ea rfl)))) W5.out rfl
   |some q=>
    obtain⟨k1,k2,k3⟩:=HRI.out q rfl;have HI2:=bA (show iB c q.2.1 q.2.2=true/\q.2.2.length+nA q.2.2+aN (b.drop (j+1))<=1048576/\(0<=q.1/\q.1<=1000000000000000)/\1<=M+py.size/\M+py.size+aN (b.drop (j+1))<=3000000 from⟨k1,by omega,k2,by omega,by omega⟩);have HR2:=bA (S.out.symm.trans HR.out);clear hdr i1 i2 i3 i4 i5 HI HRI S k1 k2 k3 HR;go_wp2_with fail;refine f.out.mono ?_;rintro e w5 ⟨rfl,hh5,p⟩;have H5:=bA (hh5 q rfl);have T5:=bA (HT.out.trans' p);clear hh5 p n f;go_wp2;exact⟨⟨j+1,q,M+py.size,by omega,by go_num,H5.out,T5.out,HI2.out,HR2.out⟩,by simp[intOf];omega⟩
  ·obtain rfl:j=b.length:=by omega
   have E4:=bA (show R=(K2,Lw,s,0) from E3.out.trans (by rw[<-HR.out,Gg];rfl));have i2:=HI.out.2.1;clear HR HI;go_wp2;go_ret2;rw[E4.out];exact⟨_,Lw,rfl,Ba (Ha _),WR.out,fun _=>⟨rfl,Ma (A2 _ _) i2,h,l,m,_,M,rfl,HH.out⟩⟩
theorem mw {b w:World} {B P D:Nat} {K:kB} (c:nB) (h:bQ b w B P D K iD) (g:oH b) (d:dF b) (f:vF c=true) (i:xA K.fs<=1048576):
 Calls prog 29 #[.pointer (some ⟨P,0,none⟩),tE c] w fun e n=>GI c b B P D (kR c K) e n:=by
 by_cases a:K.dn=true\/(fB K).2≠0\/(tP c (fB K).1).2.2.2=false
 ·exact uo c h g d f i a
 ·have j:K.dn=false:=by simpa using fun e=>a (Ba e)
  have k:(fB K).2=0:=Mf fun e=>a (Ea (Ba e));have l:(tP c (fB K).1).2.2.2=true:=by simpa using fun e=>a (Ea (Ea e))
  by_cases m:(cD (fB K).1).2.2.2=0
  ·exact my c h g d f i j k l m
  ·exact mx c h g d f i j k l m
end
section
open Go.Maps
attribute [local go_sem] AZ fU bd lA.drewI JG.drewI JG.new JG.alloc JG.alloc2
def aMx (V:cF×Int) (w:World) (e:Ending) (d:World):Prop:=
 ∃a ca b f,e=.returned (.tuple #[.agg (cG a ca b f V.1),.int .i64 V.2])/\qQ d (fun x=>w.heap.size<=x/\x<d.heap.size) a b V.1/\Below w.heap.size w d
section
variable {w W:World} {c:nB} {a:Option Addr} {ca:Nat} {K:kB}
theorem DZ {l:Func} {t:Act} {V:cF×Int} {M:cF} {b:Int} {g i:Option Addr} {d f H:Nat} (h:l.results=#[.cell 4 37,.tmp 5]) (m:t.tmps.getD 4 undef=.pointer (some ⟨w.heap.size+1+1,0,none⟩)) (n:t.tmps.getD 5 undef=.int .i64 b) (p:t.defers=[]) (P:OP w W c a ca K) (E:V=(M,b)) (o:qQ W (fun x=>w.heap.size+1+1<x/\x<H) g i M) (s:H<=W.heap.size):bodyPost prog l (fun e r=>aMx V w e r) .ret t (W.setRow (w.heap.size+1+1) (cG g d i f M)):=by
 refine bodyPost_ret (aHc h m n P.R.row (fU _ _ _ _ _)) p ?_;subst E;have j:=sR W (w.heap.size+1+1) (cG g d i f M);have v:=j.size;have:=P.B.size;exact⟨g,d,i,f,rfl,(o.turned j (fun x q _ e=>by omega)).mono (fun x q=>by omega),P.B.trans (j.below P.B.size (fun k u e=>by omega))⟩
end
theorem aQg {w:World} {B D H n d:Nat} {l:List dA} {c k m q:Int} {p:Bool} {a:Option Addr} (h:oB w B D l c k m q p (.slice a n d)) (v:H<B):aH w (fun x=>H<x/\x<w.heap.size) a l:=by
 obtain⟨u,j,e,t⟩:=h.files;simp only[Value.slice.injEq]at e;obtain⟨rfl,_,_⟩:=e;rcases t with r|⟨b,o,rfl,i,g⟩
 ·exact Ba r
 ·obtain⟨f,s⟩:=iU h.row b rfl;have:=oI h.row b rfl;exact Ea ⟨b,o,f,_,rfl,⟨by omega,i⟩,s,g⟩
theorem WG {W:World} {A:Nat->Prop} {M:cF} (e:M.d.fs=[]) (f:M.ts=[]) (a b:Option Addr):qQ W A a b M:=⟨⟨fun _=>False,fun _=>False,Ba e,Ba f,fun _ h=>h.elim,fun _ h=>h.elim,fun _ h=>h.elim⟩⟩
theorem ja (c:nB) (a:Option Addr) (ca:Nat) (K:kB) (w:World) (h:aPi w a K) (he:oH w) (hU:dF w) (hpw:xI w):
 Calls prog 8 #[tE c,.agg #[.slice a K.fs.length ca,.int .i64 K.c,.int .i64 K.k,.int .i64 K.cr,.int .i64 K.fl,.bool K.dn]] w fun e w'=>aMx (cT c K) w e w':=by
 have Z:=bA (fun W=>KB c W);have a0:=bA (fun W (g:Below w.heap.size w W)=>SS a ca K.fs K.c K.k K.cr K.fl K.dn W (h.files.later g) h.fit.r9 (Ma h.fit.len (by decide)) h.fit.sum);have b0:=bA (fun W (g:Below w.heap.size w W)=>aCd a ca K.fs K.c K.k K.cr K.fl K.dn W (h.files.later g) h.fit.len);have n:=bA (show oH w/\dF w/\xI w/\xA K.fs<=1048576 from⟨he,hU,hpw,h.sum⟩);have e0:=bA (show vF c=false->cT c K=(wO,61) from fun e=>Ga e);have y:=bA (show vF c=true->vC K.fs K.c K.k K.cr K.fl=false->cT c K=(wO,6) from fun e e2=>(Ca (by rw[e];decide)).trans (Ga e2));have z:=bA (show vF c=true->vC K.fs K.c K.k K.cr K.fl=true->cT c K=aLi (kR c K) from fun e e2=>(Ca (by rw[e];decide)).trans (Ca (by rw[e2];decide)));clear h he hU hpw;unfold tE at *;generalize cT c K=V at *;have fz:=ad;go_enter func8,ntmps8;go_wp2_with fail;refine(Z.out _).mono ?_;rintro e w1 ⟨rfl,o⟩;have P:=bA ((OP.new (w:=w) (c:=c) (a:=a) (ca:=ca) (K:=K)).later o);clear o Z;obtain⟨x0,x1,x2,x3,x4,x5,y0,y1,y2,y3,y4,y5,Y,z1,z2,z3,z4,z5,z6⟩:=P.out.cells;cases hc:vF c with
 |false=>
  have E:=bA (e0.out hc);go_wp2;exact DZ (H:=0) rfl rfl rfl rfl P.out E.out (WG rfl rfl _ _) (Ha _)
 |true=>
  replace y:=bA (y.out hc);replace z:=bA (z.out hc);have HC:=bA hc;clear hc e0;go_wp2_with fail;refine(a0.out _ P.out.B).mono ?_;rintro e w2 ⟨rfl,o⟩;replace P:=bA (P.out.later o);clear o a0 x0 x1 x2 x3 x4 x5 y0 y1 y2 y3 y4 y5 Y z1 z2 z3 z4 z5 z6;obtain⟨x0,x1,x2,x3,x4,x5,y0,y1,y2,y3,y4,y5,Y,z1,z2,z3,z4,z5,z6⟩:=P.out.cells;cases hd:vC K.fs K.c K.k K.cr K.fl with
  |false=>
   have E:=bA (y.out hd);go_wp2;exact DZ (H:=0) rfl rfl rfl rfl P.out E.out (WG rfl rfl _ _) (Ha _)
  |true=>
   have E:=bA (z.out hd);have g0:=bA hd;clear y z hd;go_wp2_with fail;refine(b0.out _ P.out.B).mono ?_;rintro e d ⟨D,v,rfl,hdr,o⟩;have O:=pA o (cA d (.cells #[.pointer (some ⟨D,0,none⟩),.int .i64 0,.int .i64 0,.int .i64 0] 76));have W4:=bA (show bQ w2 (d.alloc (.cells #[.pointer (some ⟨D,0,none⟩),.int .i64 0,.int .i64 0,.int .i64 0] 76)) w2.heap.size d.heap.size D K iD from⟨n.out.2.2.1.later P.out.B,O,Da _,o.size,lA.new _ _ _,⟨v,hdr.later (cA _ _)⟩,g0.out⟩);have P4:=bA (P.out.later O);have hz3:=o.size;have s:=bA (mw c W4.out (n.out.1.later P.out.B) (n.out.2.1.later P.out.B) HC.out n.out.2.2.2);unfold GI tE at s;clear o hdr O b0 x0 x1 x2 x3 x4 x5 y0 y1 y2 y3 y4 y5 Y z1 z2 z3 z4 z5 z6 g0 HC W4;obtain⟨x0,x1,x2,x3,x4,x5,y0,y1,y2,y3,y4,y5,Y,z1,z2,z3,z4,z5,z6⟩:=P4.out.cells;generalize kR c K=RR at *;obtain⟨K',L',⟨ls,nw,ts⟩,x⟩:=RR;dsimp only at s;go_wp2_with fail;refine s.out.mono ?_;rintro e f ⟨hv,J,rfl,S,I,hr⟩;have W5:=bA I;have L:=bA (P.out.later I.below);obtain⟨v5,G⟩:=I.drive;obtain⟨a5,c5,rfl,-⟩:=G.files;have u:=bA (fun W (g:Below f.heap.size f W)=>pn D _ a5 _ c5 _ _ _ _ _ W (G.blk.later g));have F5:=bA (aQg G P.out.lt);clear I G s P4 x0 x1 x2 x3 x4 x5 y0 y1 y2 y3 y4 y5 Y z1 z2 z3 z4 z5 z6 n;obtain⟨p0,p1,p2,p3⟩:=W5.out.wr.cells;have hpl:=aA W5.out.wr;by_cases b:x=0;rotate_left
   ·obtain⟨t,ht⟩:=OL S b;have E2:=bA (E.out.trans (Ca b));have c0:=bA (fun W=>ae x S W);rw[ht]at c0 |-
    have fM:=xP a5 c5 none 0 ⟨K',⟨0,0,0⟩,0,[],0,false,false⟩;simp only[Kc]at fM;clear ht E hr;go_wp2_with fail;refine(u.out _ (Below.refl _ _)).mono ?_;rintro e w6 ⟨rfl,C⟩;have P6:=bA (L.out.later C);have F6:=bA (F5.out.later C);have hz6:=C.size;clear C u fz;go_wp2_with fail;refine(c0.out _).mono ?_;rintro e w7 ⟨rfl,hw⟩;replace hw:=hw.symm;subst hw;obtain⟨_,_,_,_,_,_,_,_,_,_,_,_,Y,_,_,_,_,_,_⟩:=P6.out.cells;go_wp2;exact DZ (H:=f.heap.size) rfl rfl rfl rfl P6.out E2.out ⟨⟨_,fun _=>False,F6.out,Ba rfl,fun x b=>b,fun _ h=>h.elim,fun _ _ h=>h⟩⟩ hz6
   subst b;obtain⟨rfl,hbk,h,l,m,A,M,rfl,U⟩:=hr rfl;have E2:=bA (E.out.trans (Ga rfl));have q0:f.cell? ⟨h,0,none⟩=some (.pointer (some ⟨l,0,none⟩)):=U.blk.cell 0;have q1:f.cell? ⟨h,1,none⟩=some (.int .i64 ls):=U.blk.cell 1;have hhl:=aA U.blk;have d0:=bA (fun W (g:Below f.heap.size f W)=>aBu l m c nw A ts M W (U.led.later g) (aKj hbk) (by omega));have hne:h≠w.heap.size+1+1:=fun e=>by
    have h1:=L.out.R;rw[<-e]at h1;have h2:=(show f.heap[h]?=_ from U.blk).symm.trans h1;simp only[Ja,Obj.cells.injEq]at h2;exact absurd h2.2.1 (by decide)
   have i:=bA (show ∀W X,Below f.heap.size f W->gA (·=w.heap.size+1+1) W X->X.cell? ⟨d.heap.size,0,none⟩=some (.pointer (some ⟨D,0,none⟩))/\X.cell? ⟨d.heap.size,1,none⟩=some (.int .i64 J.first)/\X.cell? ⟨d.heap.size,2,none⟩=some (.int .i64 J.last)/\X.cell? ⟨d.heap.size,3,none⟩=some (.int .i64 J.size)/\X.cell? ⟨h,0,none⟩=some (.pointer (some ⟨l,0,none⟩))/\X.cell? ⟨h,1,none⟩=some (.int .i64 ls) from fun W X g ht=>by
    have h1:=P.out.lt;have k1:∀j,X.cell? ⟨d.heap.size,j,none⟩=f.cell? ⟨d.heap.size,j,none⟩:=fun j=>(World.cell?_of_block (ht.block _ (Ab hpl g.size) (fun e=>by have e':d.heap.size=w.heap.size+1+1:=e;omega))).trans (g.cell hpl);have k2:∀j,X.cell? ⟨h,j,none⟩=f.cell? ⟨h,j,none⟩:=fun j=>(World.cell?_of_block (ht.block _ (Ab hhl g.size) hne)).trans (g.cell hhl);exact⟨(k1 _).trans p0,(k1 _).trans p1,(k1 _).trans p2,(k1 _).trans p3,(k2 _).trans q0,(k2 _).trans q1⟩)
   rw[show GX 0=.nilIface from rfl];clear U E hr S hbk fz;go_wp2_with fail;go_region_held3 (fun W=>W.cell? ⟨d.heap.size,0,none⟩=some (.pointer (some ⟨D,0,none⟩))/\W.cell? ⟨d.heap.size,1,none⟩=some (.int .i64 J.first)/\W.cell? ⟨d.heap.size,2,none⟩=some (.int .i64 J.last)/\W.cell? ⟨d.heap.size,3,none⟩=some (.int .i64 J.size)/\W.cell? ⟨h,0,none⟩=some (.pointer (some ⟨l,0,none⟩))/\W.cell? ⟨h,1,none⟩=some (.int .i64 ls))
    (first|exact i.out _ _ p (gA.refl _ _)|exact i.out _ _ r (gA.refl _ _)|exact i.out _ _ p (sR _ _ _)|exact i.out _ _ r (sR _ _ _)|exact i.out _ _ (Below.refl _ _).drew (gA.refl _ _))
    (first
    |(go_at_call 30;(first|(have q:=p;refine(u.out _ p).mono ?_;rintro e wu ⟨rfl,F⟩;have r:=pA p F;have bT:=(L.out.later r).R.box rfl)|(refine(u.out _ (Below.refl _ _).drew).mono ?_;rintro e wu ⟨rfl,F⟩;have r:=pA (Below.refl _ _).drew F)))
    |(go_at_call 32;(first|(have q:=r;refine(d0.out _ r).mono ?_;rintro e wt ⟨N,ct,rfl,T,Q⟩;have p:=pA r Q;have bT:=(L.out.later p).R.box rfl;have fM:=xP a5 c5 N ct ⟨K',J,nw,ts,ls,false,true⟩;dsimp only at fM)|(refine(d0.out _ (Below.refl _ _).drew).mono ?_;rintro e wt ⟨N,ct,rfl,T,Q⟩;have p:=pA (Below.refl _ _).drew Q;have fM:=xP a5 c5 N ct ⟨K',J,nw,ts,ls,false,true⟩;dsimp only at fM))))
   all_goals
    have hdz:f.drew.heap.size=f.heap.size:=rfl;have hkt:=p.size;have hku:=r.size;go_wp2;first
    |exact DZ (H:=wt.heap.size) rfl rfl rfl rfl (L.out.later p) E2.out ⟨⟨_,_,F5.out.later p,T.toA (Da _),fun x b=>⟨b.1,by omega⟩,fun x b=>⟨by have:=L.out.lt;omega,b.2⟩,fun x b h=>by omega⟩⟩ (Da _)
    |exact DZ (H:=wu.heap.size) rfl rfl rfl rfl (L.out.later r) E2.out ⟨⟨_,_,F5.out.later r,(T.later F).toA (Da _),fun x b=>⟨b.1,by omega⟩,fun x b=>⟨by have:=L.out.lt;omega,b.2⟩,fun x b h=>by omega⟩⟩ (Da _)
end
