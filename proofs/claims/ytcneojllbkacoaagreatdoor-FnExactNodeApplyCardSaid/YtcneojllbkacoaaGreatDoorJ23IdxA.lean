import Derived.Test.YtcneojllbkacoaaGreatDoorJ18RecI
import Derived.Test.YtcneojllbkacoaaGreatDoorJ17OpRcS
set_option maxRecDepth 100000
set_option maxHeartbeats 4000000
namespace Go.Proofs.YtcneojllbkacoaaGreatDoor
open Go.RowKit
theorem IP (f:cA) (a1 a2 b1 b2:Option Addr) (c1 c2 d1 d2:Nat) (w:World) (p1:sA w a1 f.mets) (p2:sA w a2 f.sers) (q1:sA w b1 f.mets) (q2:sA w b2 f.sers) (l1:f.mets.length≤maxLen) (l2:f.sers.length≤maxLen):
 Calls Tryz.prog 130 #[.agg #[.string f.name,.int .i64 f.limit,.slice a1 f.mets.length c1,.slice a2 f.sers.length c2],.agg #[.string f.name,.int .i64 f.limit,.slice b1 f.mets.length d1,.slice b2 f.sers.length d2]] w fun e w'=>e=.returned (.bool true)∧Below w.heap.size w w':=by
 have HM:Hid (∀W,Below w.heap.size w W→Calls Tryz.prog 177 #[.slice a1 f.mets.length c1,.slice b1 f.mets.length d1] W fun e w'=>e=.returned (.bool true)∧Below W.heap.size W w'):=
  fun W hW=>uT a1 b1 c1 d1 f.mets W (p1.later hW) (q1.later hW) l1
 have HS:Hid (∀W,Below w.heap.size w W→Calls Tryz.prog 178 #[.slice a2 f.sers.length c2,.slice b2 f.sers.length d2] W fun e w'=>e=.returned (.bool true)∧Below W.heap.size W w'):=
  fun W hW=>EK a2 b2 c2 d2 f.sers W (p2.later hW) (q2.later hW) l2
 clear p1 p2 q1 q2;go_enter Tryz.func130,Tryz.ntmps130;go_wp2_with fail;refine (HM.out _ (rA (bA _ _) (bA _ _))).mono ?_;rintro e w1 ⟨rfl,hb1⟩;have B1:Hid (Below w.heap.size w w1):=rA (rA (bA _ _) (bA _ _)) hb1;have t0:w1.cell? ⟨w.heap.size,3,none⟩=some (.slice a2 f.sers.length c2):=(((lA.new w _ _).alloc _).later hb1).cell 3;have t1:w1.cell? ⟨w.heap.size+1,3,none⟩=some (.slice b2 f.sers.length d2):=by
  have:=((lA.new (w.alloc (.cells #[.string f.name,.int .i64 f.limit,.slice a1 f.mets.length c1,.slice a2 f.sers.length c2] 95)) #[.string f.name,.int .i64 f.limit,.slice b1 f.mets.length d1,.slice b2 f.sers.length d2] 95).later hb1).cell 3;simpa using this
 clear hb1;go_wp2_with fail;refine (HS.out _ B1.out).mono ?_;rintro e w2 ⟨rfl,hb2⟩;have B2:Hid (Below w.heap.size w w2):=rA B1.out hb2;clear hb2;go_wp2;go_ret;exact ⟨rfl,B2.out⟩
def aHt (fs:List cA):Prop:=∀i (h:i<fs.length),fs[i].mets.length≤maxLen∧fs[i].sers.length≤maxLen
theorem EP (a a':Option Addr) (cap cap':Nat) (fs:List cA) (w:World) (hf:pB w a fs) (hf':pB w a' fs) (hlen:fs.length≤maxLen) (hl:aHt fs):
 Calls Tryz.prog 86 #[.slice a fs.length cap,.slice a' fs.length cap'] w fun e w'=>e=.returned (.bool true)∧Below w.heap.size w w':=by
 unfold maxLen at hlen;have HF:Hid (pB w a fs):=hf;have HF':Hid (pB w a' fs):=hf';have HL:Hid (aHt fs):=hl;clear hf hf' hl;go_enter Tryz.func86,Tryz.ntmps86;go_wp2;go_loopw [5] (fun i wr=>∃k:Nat,k≤fs.length∧i=.int .i64 k∧Below w.heap.size w wr) (fun i _=>fs.length - (intOf i).toNat)
 case atStart=>exact ⟨0,Nat.zero_le _,rfl,Below.refl _ _⟩
 case round=>
  obtain ⟨k,hk,rfl,hbel⟩:=hrel;by_cases hlt:k<fs.length
  ·obtain ⟨b,o,a1,q1,a2,q2,rfl,hb,c0,c1,c2,c3,p1,p2⟩:=(HF.out.later hbel).at hlt;obtain ⟨b',o',b1,r1,b2,r2,rfl,hb',e0,e1,e2,e3,s1,s2⟩:=(HF'.out.later hbel).at hlt;have d0:=pA.cells c0;have d1:=pA.cells c1;have d2:=pA.cells c2;have d3:=pA.cells c3;have g0:=pA.cells e0;have g1:=pA.cells e1;have g2:=pA.cells e2;have g3:=pA.cells e3;have HC:Hid (∀x:pA wr,Calls Tryz.prog 130 #[.agg #[.string fs[k].name,.int .i64 fs[k].limit,.slice a1 fs[k].mets.length q1,.slice a2 fs[k].sers.length q2],.agg #[.string fs[k].name,.int .i64 fs[k].limit,.slice b1 fs[k].mets.length r1,.slice b2 fs[k].sers.length r2]] x.w' fun e w'=>e=.returned (.bool true)∧Below x.w'.heap.size x.w' w'):=
    fun x=>IP fs[k] _ _ _ _ _ _ _ _ x.w' (p1.later x.h) (p2.later x.h) (s1.later x.h) (s2.later x.h) (HL.out k hlt).1 (HL.out k hlt).2
   clear c0 c1 c2 c3 e0 e1 e2 e3 p1 p2 s1 s2;have hne:=pA.there wr;go_wp2_with fail;refine fA (by kernel_rfl) (by kernel_rfl) ?_;repeat (go_big_quiet_step (exact oA (HC.out _)))
   refine wpQuiet_nil ?_;rintro _ ⟨x,rfl⟩;go_wp2;exact ⟨⟨k+1,by omega,by go_num,hbel.trans (x.h.mono hbel.size)⟩,by simp [intOf];omega⟩
  ·go_wp2;go_ret;exact ⟨rfl,hbel⟩
theorem OG (now:Int) (a a':Option Addr) (cap cap':Nat) (fs:List cA) (w:World) (hf:pB w a fs) (hf':pB w a' fs) (hlen:fs.length≤maxLen) (hl:aHt fs):
 Calls Tryz.prog 40 #[.agg #[.int .i64 now,.slice a fs.length cap],.agg #[.int .i64 now,.slice a' fs.length cap']] w fun e w'=>e=.returned (.bool true)∧Below w.heap.size w w':=by
 have HC:Hid (∀W,Below w.heap.size w W→Calls Tryz.prog 86 #[.slice a fs.length cap,.slice a' fs.length cap'] W fun e w'=>e=.returned (.bool true)∧Below W.heap.size W w'):=
  fun W hW=>EP a a' cap cap' fs W (hf.later hW) (hf'.later hW) hlen hl
 clear hf hf' hl;go_enter Tryz.func40,Tryz.ntmps40;go_wp2_with fail;refine (HC.out _ (rA (bA _ _) (bA _ _))).mono ?_;rintro e w1 ⟨rfl,hb1⟩;have B1:Hid (Below w.heap.size w w1):=rA (rA (bA _ _) (bA _ _)) hb1;clear hb1;go_wp2;go_ret;exact ⟨rfl,B1.out⟩
def aQc (cur:Array Value) (hs:List rF):Prop:=∀k,k<hs.length→cur[k * 2]?=some (.pointer (some ⟨(rB hs k).b,0,none⟩))∧cur[k * 2+1]?=some (.int .i64 (rB hs k).t)
def wD (w:World) (g cap:Nat) (hs:List rF):Prop:=∃cur,lA w g cur 309∧cur.size=cap * 2∧hs.length≤cap∧cap≤maxLen∧aQc cur hs
theorem wD.cells {w:World}{g cap k:Nat}{hs:List rF} (h:wD w g cap hs) (hk:k<hs.length):
 w.cell? ⟨g,k * 2,none⟩=some (.pointer (some ⟨(rB hs k).b,0,none⟩))∧w.cell? ⟨g,k * 2+1,none⟩=some (.int .i64 (rB hs k).t)∧w.frozen? ⟨g,k * 2,none⟩=false∧w.frozen? ⟨g,k * 2+1,none⟩=false:=by
 obtain ⟨cur,hb,_,_,_,hc⟩:=h;rw [hb.cell,hb.cell];exact ⟨(hc k hk).1,(hc k hk).2,hb.free _,hb.free _⟩
theorem wD.later {w w':World}{g cap:Nat}{hs:List rF} (h:wD w g cap hs) (hb:Below w.heap.size w w'):wD w' g cap hs:=by
 obtain ⟨cur,h1,h2⟩:=h;exact ⟨cur,h1.later hb,h2⟩
theorem wD.lt {w:World}{g cap:Nat}{hs:List rF} (h:wD w g cap hs):g<w.heap.size:=by
 obtain ⟨cur,h1,h2⟩:=h;exact aA h1
theorem bE.drew {g:Nat}{a w:World} (h:bE g a w):bE g a w.drew:=⟨h.os,h.tape,h.output,h.size,h.block⟩
theorem wD.swap {w:World}{g cap i j:Nat}{hs:List rF} (h:wD w g cap hs) (hi:i<hs.length) (hj:j<hs.length):
 wD ((((w.setCell ⟨g,i * 2,none⟩ (.pointer (some ⟨(rB hs j).b,0,none⟩))).setCell ⟨g,i * 2+1,none⟩ (.int .i64 (rB hs j).t)).setCell ⟨g,j * 2,none⟩ (.pointer (some ⟨(rB hs i).b,0,none⟩))).setCell ⟨g,j * 2+1,none⟩ (.int .i64 (rB hs i).t)) g cap (fE hs i j):=by
 obtain ⟨cur,h1,h2,h3,h4,h5⟩:=h;refine ⟨_,(((h1.set _ _).set _ _).set _ _).set _ _,by simp [h2],by rw [xB];exact h3,h4,fun k hk=>?_⟩;rw [xB] at hk;rw [vF hi hj];by_cases e1:k=j
 ·subst e1;rw [if_pos rfl];constructor<;>simp [Array.getElem?_setIfInBounds,h2]<;>omega
 ·rw [if_neg e1];by_cases e2:k=i
  ·subst e2;rw [if_pos rfl];constructor
   ·rw [Array.getElem?_setIfInBounds_ne (by omega),Array.getElem?_setIfInBounds_ne (by omega),Array.getElem?_setIfInBounds_ne (by omega)];simp [Array.getElem?_setIfInBounds,h2];omega
   ·rw [Array.getElem?_setIfInBounds_ne (by omega),Array.getElem?_setIfInBounds_ne (by omega)];simp [Array.getElem?_setIfInBounds,h2];omega
  ·rw [if_neg e2];obtain ⟨c1,c2⟩:=h5 k hk;constructor
   ·rw [Array.getElem?_setIfInBounds_ne (by omega),Array.getElem?_setIfInBounds_ne (by omega),Array.getElem?_setIfInBounds_ne (by omega),Array.getElem?_setIfInBounds_ne (by omega)];exact c1
   ·rw [Array.getElem?_setIfInBounds_ne (by omega),Array.getElem?_setIfInBounds_ne (by omega),Array.getElem?_setIfInBounds_ne (by omega),Array.getElem?_setIfInBounds_ne (by omega)];exact c2
theorem GX (x o g n cap i j:Nat) (hs:List rF) (w:World) (hp:w.cell? ⟨x,o,none⟩=some (.slice (some ⟨g,0,none⟩) n cap)) (hn:n=hs.length) (hH:wD w g cap hs) (hi:i<n) (hj:j<n):
 Calls Tryz.prog 250 #[.pointer (some ⟨x,o,none⟩),.int .i64 i,.int .i64 j] w fun e w'=>e=.returned (.tuple #[])∧wD w' g cap (fE hs i j)∧bE g w w':=by
 have HSW:Hid (wD ((((w.setCell ⟨g,i * 2,none⟩ (.pointer (some ⟨(rB hs j).b,0,none⟩))).setCell ⟨g,i * 2+1,none⟩ (.int .i64 (rB hs j).t)).setCell ⟨g,j * 2,none⟩ (.pointer (some ⟨(rB hs i).b,0,none⟩))).setCell ⟨g,j * 2+1,none⟩ (.int .i64 (rB hs i).t)) g cap (fE hs i j)):=hH.swap (by omega) (by omega);obtain ⟨c0,c1,f0,f1⟩:=hH.cells (k:=i) (by omega);obtain ⟨d0,d1,u0,u1⟩:=hH.cells (k:=j) (by omega);have HE:∀(a b:Value),(∃v,((w.setCell ⟨g,i * 2,none⟩ a).setCell ⟨g,i * 2+1,none⟩ b).cell? ⟨g,j * 2,none⟩=some v)∧(∃v,((w.setCell ⟨g,i * 2,none⟩ a).setCell ⟨g,i * 2+1,none⟩ b).cell? ⟨g,j * 2+1,none⟩=some v)∧
  ((w.setCell ⟨g,i * 2,none⟩ a).setCell ⟨g,i * 2+1,none⟩ b).frozen? ⟨g,j * 2,none⟩=false∧((w.setCell ⟨g,i * 2,none⟩ a).setCell ⟨g,i * 2+1,none⟩ b).frozen? ⟨g,j * 2+1,none⟩=false:=fun a b=>by
  obtain ⟨cur,h1,h2,h3,_⟩:=hH;have hB:=(h1.set (i * 2) a).set (i * 2+1) b;exact ⟨hB.there (by simp;omega),hB.there (by simp;omega),hB.free _,hB.free _⟩
 obtain ⟨⟨v0,e0⟩,⟨v1,e1⟩,e2,e3⟩:=HE (.pointer (some ⟨(rB hs j).b,0,none⟩)) (.int .i64 (rB hs j).t);clear hn hH HE;generalize rB hs i=A at *;generalize rB hs j=C at *;generalize fE hs i j=R at *;clear hs;go_enter Tryz.func250,Tryz.ntmps250;go_wp2_with fail;go_region
 go_wp2;go_end0;exact ⟨rfl,HSW.out,(((((bE.refl g w).setCell _ _).setCell _ _).setCell _ _).setCell _ _).drew⟩
def kH (hs:List rF):List Value:=hs.flatMap fun x=>[.pointer (some ⟨x.b,0,none⟩),.int .i64 x.t]
theorem OI (a b:List rF):kH (a++b)=kH a++kH b:=by simp [kH]
theorem tW (hs:List rF):(kH hs).length=hs.length * 2:=by
 induction hs with
 | nil=>rfl
 | cons x r ih=>simp [kH] at ih ⊢;omega
theorem yY:∀(hs:List rF) (k:Nat),k<hs.length→(kH hs)[k * 2]?=some (.pointer (some ⟨(rB hs k).b,0,none⟩))∧(kH hs)[k * 2+1]?=some (.int .i64 (rB hs k).t)
 | [],k,h=>absurd h (by simp)
 | x :: r,0,_=>⟨rfl,rfl⟩
 | x :: r,k+1,h=>by
   have ih:=yY r k (by simpa using h);have e:kH (x :: r)=.pointer (some ⟨x.b,0,none⟩):: .int .i64 x.t :: kH r:=rfl;rw [e,show (k+1) * 2=k * 2+1+1 by omega,List.getElem?_cons_succ,List.getElem?_cons_succ,List.getElem?_cons_succ,List.getElem?_cons_succ];exact ih
theorem vW {w:World}{B g n cap:Nat}{hs:List rF} (h:w.ownsRow B 309 2 (.slice (some ⟨g,0,none⟩) n cap) n (kH hs)) (hn:n=hs.length):wD w g cap hs∧B≤g:=by
 rcases h.2 with ⟨e,_⟩ | ⟨g',cap',cur,e,hB,hb,h1,h2,h3,h4⟩
 ·simp at e
 ·simp only [Value.slice.injEq,Option.some.injEq,Addr.mk.injEq,and_true,true_and] at e;obtain ⟨rfl,rfl⟩:=e;refine ⟨⟨cur,hb,h3,by omega,h2,fun k hk=>?_⟩,hB⟩;have h5:∀j,j<n * 2→cur[j]?=(kH hs)[j]?:=fun j hj=>by rw [←h4,List.getElem?_take_of_lt hj,Array.getElem?_toList]
  rw [h5 _ (by omega),h5 _ (by omega)];exact yY hs k hk
theorem iR {w:World}{B g cap:Nat}{hs:List rF} (h:wD w g cap hs) (hB:B≤g):w.ownsRow B 309 2 (.slice (some ⟨g,0,none⟩) hs.length cap) hs.length (kH hs):=by
 obtain ⟨cur,h1,h2,h3,h4,h5⟩:=h;refine ⟨tW hs,Or.inr ⟨g,cap,cur,rfl,hB,h1,h3,h4,h2,?_⟩⟩;apply List.ext_getElem?;intro j;by_cases hj:j<hs.length * 2
 ·rw [List.getElem?_take_of_lt hj,Array.getElem?_toList];obtain ⟨q1,q2⟩:=h5 (j / 2) (by omega);obtain ⟨r1,r2⟩:=yY hs (j / 2) (by omega);rcases Nat.mod_two_eq_zero_or_one j with e | e
  ·have:j=j / 2 * 2:=by omega
   rw [this,q1,r1]
  ·have:j=j / 2 * 2+1:=by omega
   rw [this,q2,r2]
 ·rw [List.getElem?_eq_none (by simp;omega),List.getElem?_eq_none (by rw [tW];omega)]
theorem ZK:(Tryz.prog.info? 309).map (fun i=>(i.zero,i.size,i.bytes))=some (some (.agg #[.pointer none,.int .i64 0]),2,16):=by kernel_rfl
theorem uU (p q:Value) (s t:Int) (w:World):Calls Tryz.prog 335 #[.agg #[p,.int .i64 s],.agg #[q,.int .i64 t]] w fun e w'=>e=.returned (.bool (decide (s<t)))∧Below w.heap.size w w':=by
 go_enter Tryz.func335,Tryz.ntmps335;go_wp2;go_ret;exact ⟨rfl,rA (bA _ _) (bA _ _)⟩
theorem bR (x y : Value) (w : World) : (invoke (.fn (.method "loop.example/s02176/impl.before") #[]) #[.iface 309 x, y]).run Tryz.prog w = .ok (.enter 335 #[x, y]) w := by kernel_rfl
theorem mP {P:Program}{ops:Array Oper}{C:World→Prop}{Q:Act→Prop}{a:Act}{o:Oper}{rest:List Oper}{f:FuncId}{args:Array Value}{v:Value} (hw:Region.wanted o (yielded ops a.tmps)=true)
 (hx:∀w,(execOp a.eval o).run P w=.ok (.enter f args) w) (hc:∀w,C w→Calls P f args w (fun e w''=>e=.returned v∧C w'')) (h:wpQuiet P ops C Q rest (a.put o.dst v)):wpQuiet P ops C Q (o :: rest) a:=
 BigFrame.wpQuiet_want hw fun K hK=>⟨v,fun w hw=>by unfold Oper.quietAt;rw [hx];exact ⟨rfl,hc w hw⟩,hK _ h⟩
theorem iS {P:Program} (ρ:Operand→Value) (o:Oper) (r y:Operand) (name:String) (ts:Array TypeId) (ho:o.op=.call { callee:=.invoke r name,args:=#[y],argTypes:=ts}){u z:Value} (hr:ρ r=u) (hy:ρ y=z){n:Next}{w:World}
 (h:(invoke (.fn (.method name) #[]) #[u,z]).run P w=.ok n w):(execOp ρ o).run P w=.ok n w:=by
 unfold execOp;simp only [ho,resolve];simp [hr,hy,h]
theorem WD (x o B:Nat) (v:Value) (hs:List rF) (s:rF) (w:World) (cx:Array Value) (tx:TypeId) (hX:lA w x cx tx) (ho:cx[o]?=some v) (hown:w.ownsRow B 309 2 v hs.length (kH hs)) (hsep:v.ownBlock≠some x) (hB:B≤w.heap.size) (hn:hs.length≤1000000000):
 Calls Tryz.prog 222 #[.pointer (some ⟨x,o,none⟩),.agg #[.pointer (some ⟨s.b,0,none⟩),.int .i64 s.t]] w fun e w'=>e=.returned (.tuple #[])∧∃g cap,lA w' x (cx.setIfInBounds o (.slice (some ⟨g,0,none⟩) (hs.length+1) cap)) tx∧
  w'.ownsRow B 309 2 (.slice (some ⟨g,0,none⟩) (hs.length+1) cap) (hs.length+1) (kH (vM hs s))∧(v.ownBlock=some g∨w.heap.size≤g)∧dA (fun k=>k=x∨v.ownBlock=some k) w w':=by
 obtain ⟨i0,hi,hz0,hz1,hz2⟩:=info_parts ZK;have c0:w.cell? ⟨x,o,none⟩=some v:=by rw [hX.cell];exact ho
 have f0:=hX.free o;have hxl:=aA hX;have HX:Hid (lA w x cx tx):=hX;clear hX;have OWN:Hid (((w.alloc (.cells #[.pointer (some ⟨s.b,0,none⟩),.int .i64 s.t] 309)).alloc (.cells #[.pointer (some ⟨s.b,0,none⟩),.int .i64 s.t] 309)).ownsRow B 309 2 v hs.length (kH hs)):=iA ((hown.alloc _).alloc _);have NEW:Hid (((w.alloc (.cells #[.pointer (some ⟨s.b,0,none⟩),.int .i64 s.t] 309)).alloc (.cells #[.pointer (some ⟨s.b,0,none⟩),.int .i64 s.t] 309)).heap[w.heap.size+1]?=some (.cells #[.pointer (some ⟨s.b,0,none⟩),.int .i64 s.t] 309 (0,0))):=iA (by have:=heap_alloc_new (w.alloc (.cells #[.pointer (some ⟨s.b,0,none⟩),.int .i64 s.t] 309)) (.cells #[.pointer (some ⟨s.b,0,none⟩),.int .i64 s.t] 309);simpa using this);have KEEP:Hid (∀w1:World,((w.alloc (.cells #[.pointer (some ⟨s.b,0,none⟩),.int .i64 s.t] 309)).alloc (.cells #[.pointer (some ⟨s.b,0,none⟩),.int .i64 s.t] 309)).grownBy w1 v.ownBlock→lA w1 x cx tx∧dA (fun k=>v.ownBlock=some k) w w1):=fun w1 h=>by
  have ht:=(dA.of (S:=fun k=>v.ownBlock=some k) (rA (bA w _) (bA _ _))).trans' (dA.grown h);exact ⟨ht.blk HX.out hsep,ht⟩
 clear f0 hown;go_enter Tryz.func222,Tryz.ntmps222;go_upto_region 1 with fail;go_cut [13] (fun _ wx=>∃g cap,lA wx x (cx.setIfInBounds o (.slice (some ⟨g,0,none⟩) (hs.length+1) cap)) tx∧wD wx g cap (hs++[s])∧B≤g∧(v.ownBlock=some g∨w.heap.size≤g)∧g≠x∧dA (fun k=>k=x∨v.ownBlock=some k) w wx)
 case first=>
  go_region_law (refine step_append_lies _ rfl (.tmp 10) (.tmp 12) 225 rfl B 309 i0 (.agg #[.pointer none,.int .i64 0]) 2 16 Tryz.underlying225 hi hz0 hz1 hz2 rfl (by decide) v hs.length (kH hs) (by simp [Act.eval]) (by exact OWN.out) ⟨w.heap.size+1,0,none⟩ 1 1 [.pointer (some ⟨s.b,0,none⟩),.int .i64 s.t] (by simp [Act.eval]) rfl (World.news_of_block (cs:=#[.pointer (some ⟨s.b,0,none⟩),.int .i64 s.t]) (by exact NEW.out)) (by intro u hu;simp at hu;rcases hu with rfl | rfl<;>rfl) (by omega) (by unfold maxLen;omega) (by omega) (by simp;omega) (w.heap.size+1+1) (by simp) ?_;intro g cap w1 hrow hgr hloc hlt;obtain ⟨hx1,ht1⟩:=KEEP.out w1 ⟨hgr.os,hgr.tape,hgr.output,hgr.size,hgr.block⟩;have c1:w1.cell? ⟨x,o,none⟩=some v:=(by rw [hx1.cell];exact ho);have f1:=hx1.free o)
  all_goals (go_wp2_with fail;go_meet)
  all_goals
   have hr2:w1.ownsRow B 309 2 (.slice (some ⟨g,0,none⟩) (hs.length+1) cap) (hs.length+1) (kH (hs++[s])):=by rw [OI];exact hrow
   obtain ⟨hM,hBg⟩:=vW hr2 (by simp);have hne:g≠x:=by
    rcases hloc with h | h
    ·exact fun e=>hsep (by rw [←e];exact h)
    ·omega
   obtain ⟨cur,m1,m2⟩:=hM;exact ⟨g,cap,hx1.set o _,⟨cur,m1.but ((bE.refl _ _).setCell _ _) hne,m2⟩,hBg,by rcases hloc with h | h;exact Or.inl h;exact Or.inr (by omega),hne,dA.setCell (S:=fun k=>k=x∨v.ownBlock=some k) (ht1.mono fun k _ hk=>Or.inr hk) (Or.inl (Or.inl rfl)) _ _⟩
 obtain ⟨g,cap,hx1,hM1,hBg,hloc,hne,ht1⟩:=hcut;rename World=>w1;have HX1:Hid (lA w1 x (cx.setIfInBounds o (.slice (some ⟨g,0,none⟩) (hs.length+1) cap)) tx):=hx1;have HM1:Hid (wD w1 g cap (hs++[s])):=hM1;have HT1:Hid _:=ht1;have HLOC:Hid _:=hloc;have hoc:=(Array.getElem?_eq_some_iff.1 ho).1;have hcx:(cx.setIfInBounds o (.slice (some ⟨g,0,none⟩) (hs.length+1) cap))[o]?=some (.slice (some ⟨g,0,none⟩) (hs.length+1) cap):=by simp [hoc]
 obtain ⟨cx1,hcd⟩:∃c,c=cx.setIfInBounds o (.slice (some ⟨g,0,none⟩) (hs.length+1) cap):=⟨_,rfl⟩
 rw [←hcd] at hcx HX1;have HCD:Hid _:=hcd;clear hcd;have k0:w1.cell? ⟨x,o,none⟩=some (.slice (some ⟨g,0,none⟩) (hs.length+1) cap):=by rw [HX1.out.cell];exact hcx
 clear hx1 hM1 ht1 hloc OWN NEW KEEP HX c0 ho hi hz0 hz1 hz2 hsep;go_wp2;go_loopw [4] (fun a wr=>∃(k:Nat) (l:List rF),a=.int .i64 k∧k<l.length∧l.length=hs.length+1∧lA wr x cx1 tx∧wD wr g cap l∧Hid (vM hs s=pM l k)∧dA (fun k=>k=x∨v.ownBlock=some k) w wr) (fun a _=>(intOf a).toNat)
 case atStart=>exact ⟨hs.length,hs++[s],by go_num,by simp,by simp,HX1.out,HM1.out,rfl,HT1.out⟩
 case round=>
  obtain ⟨k,l,rfl,hk,hl,hx2,hM2,HS,ht2⟩:=hrel;have HX2:Hid (lA wr x cx1 tx):=hx2;have HM2:Hid (wD wr g cap l):=hM2;have HT2:Hid _:=ht2;have k1:wr.cell? ⟨x,o,none⟩=some (.slice (some ⟨g,0,none⟩) (hs.length+1) cap):=by rw [hx2.cell];exact hcx
  clear hx2 hM2 ht2 k0;by_cases h0:0<k
  ·have hst:=BM (l:=l) h0;obtain ⟨q,hqd⟩:∃q,q=(k - 1) / 2:=⟨_,rfl⟩
   rw [←hqd] at hst;have hq:((k:Int) - 1) / 2=(q:Nat):=by omega
   have hp:q<l.length:=by omega
   have hqk:q<k:=by omega
   have h1:(1:Int)≤k:=by omega
   obtain ⟨a0,a1,_,_⟩:=HM2.out.cells hk;obtain ⟨b0,b1,_,_⟩:=HM2.out.cells hp;have HST:Hid _:=hst;have HSW:Hid (∀W,Below wr.heap.size wr W→Calls Tryz.prog 250 #[.pointer (some ⟨x,o,none⟩),.int .i64 k,.int .i64 (((k:Int) - 1) / 2)] W fun e w'=>e=.returned (.tuple #[])∧wD w' g cap (fE l k q)∧bE g W w'):=
    fun W hW=>by rw [hq];exact GX x o g (hs.length+1) cap k q l W (by rw [(HX2.out.later hW).cell];exact hcx) hl.symm (HM2.out.later hW) (by omega) (by omega)
   have HL:Hid _:=hl;have hkn:k<hs.length+1:=by omega
   have hqn:q<hs.length+1:=by omega
   clear hst hqd hl;have d0:=pA.cells k1;have d1:=pA.cells a0;have d2:=pA.cells a1;have d3:=pA.cells b0;have d4:=pA.cells b1;have hnel:=pA.there wr;clear a0 a1 b0 b1 k1;generalize rB l k=A at *;generalize rB l q=C at *;go_wp2_with fail;refine fA (by kernel_rfl) (by kernel_rfl) ?_;repeat (go_big_quiet_step (fail))
   refine mP (by rfl) (fun W=>iS _ _ _ _ _ _ rfl rfl rfl (bR _ _ W)) (by rintro _ ⟨x,rfl⟩;exact oA (uU _ _ _ _ _)) ?_;simp only [Act.put,List.setIfInBounds_toArray,List.set_cons_succ,List.set_cons_zero];repeat (go_big_quiet_step (fail))
   refine wpQuiet_nil ?_;rintro _ ⟨y,rfl⟩;have HY:Hid _:=y.h;have HE:Hid _:=hq;clear d0 d1 d2 d3 d4 hnel hq;generalize y.w'=W2 at *;clear y;by_cases hAC:A.t<C.t
   ·have hd:decide (A.t<C.t)=true:=by simpa using hAC
    rw [hd];have HS2:Hid (vM hs s=pM (fE l k q) q):=by show _=_;rw [HS.out,HST.out,if_pos hAC]
    go_wp2_with fail;refine (HSW.out _ HY.out).mono ?_;rintro e w3 ⟨rfl,hM3,hb3⟩;have HM3:Hid (wD w3 g cap (fE l k q)):=hM3;have HX3:Hid (lA w3 x cx1 tx):=(HX2.out.later HY.out).but hb3 hne.symm;have HT3:Hid (dA (fun k=>k=x∨v.ownBlock=some k) w w3):=by
     refine (HT2.out.trans' (dA.of HY.out)).trans ((dA.but hb3).mono fun i _ e=>?_);subst e;rcases HLOC.out with h | h
     ·exact Or.inl (Or.inr h)
     ·exact Or.inr h
    clear hM3 hb3 HSW;go_wp2;exact ⟨⟨q,fE l k q,by rw [HE.out],by rw [xB];exact hp,by rw [xB];exact HL.out,HX3.out,HM3.out,HS2.out,HT3.out⟩,by simp [intOf];omega⟩
   ·have hd:decide (A.t<C.t)=false:=by simpa using hAC
    rw [hd];have HS2:Hid (vM hs s=l):=by show _=_;rw [HS.out,HST.out,if_neg hAC]
    go_wp2;refine bodyPost_ret (v:=.tuple #[]) (by simp [results,Tryz.results222,go_sem]) rfl ⟨rfl,g,cap,HCD.out ▸ HX2.out.later HY.out,?_,HLOC.out,HT2.out.trans' (dA.of HY.out)⟩;rw [HS2.out,←HL.out];exact iR (HM2.out.later HY.out) hBg
  ·go_wp2;go_end0;obtain rfl:k=0:=by omega
   rw [HS.out,BN];refine ⟨rfl,g,cap,HCD.out ▸ HX2.out,?_,HLOC.out,HT2.out⟩;rw [←hl];exact iR HM2.out hBg
end Go.Proofs.YtcneojllbkacoaaGreatDoor
namespace Go.Proofs.YtcneojllbkacoaaGreatDoor
open Go.RowKit Go.Maps Go.ChangeMaps
def uF (n:Int):DataW Unit:=.lit (.int .i64 n)
def kD (g:Nat):DataW Unit:=.lit (.int .i64 (g:Int))
def wC:Value→Option (DataW Unit×List MemPlace)
 | .pointer (some ⟨g,0,none⟩)=>some (kD g,[])
 | .pointer none=>some (.nil,[])
 | _=>none
theorem dL (g:Nat):wC (.pointer (some ⟨g,0,none⟩))=some (kD g,[]):=rfl
theorem zG:Keyed Tryz.prog 9:=string_keyed Tryz.underlying9
theorem uI {s:ByteArray} (h:s.size≤maxLen):keyOf Tryz.prog 9 (.string s)=some (kL s):=WideMaps.keyOf_string_mk Tryz.underlying9 h
theorem II {H:Type}{P:Program}{w:World}{k:TypeId}{R:Value→Option (DataW H×List MemPlace)}{b n:Nat}{D:DataW H} (h:w.ownsMap P k R b n D):w.ownsMap P k R b (Maps.size D) D:=by
 obtain ⟨es,clock,hb,F,hs,rfl⟩:=h;refine ⟨es,clock,hb,F,?_,rfl⟩;rw [size_eq,length_sorted,List.length_map,Array.length_toList];exact Nat.le_refl _
structure wM (w:World) (S:Nat→Prop) (x:Nat) (t:cA) (M lm sm cm:Nat) (iv:Value) (Q:List (gA×Nat)) (hs:List rF) (D:DataW Unit):Prop where
 blk:lA w x #[.int .i64 t.limit,.map (some lm),.map (some sm),.map (some cm),iv] 229
 lims:w.ownsMap Tryz.prog 9 (plainElem Tryz.prog 3) lm t.mets.length (kC (t.mets.map fun p=>(p.s,uF p.n)))
 sers:w.ownsMap Tryz.prog 9 wC sm Q.length (kC (Q.map fun q=>(q.1.s,kD q.2)))
 cnts:w.ownsMap Tryz.prog 9 (plainElem Tryz.prog 3) cm M D
 cnt:∀m:ByteArray,D.atKey (kL m) (uF 0)=uF (mF bC t.sers m)
 q1:Q.map (·.1)=t.sers
 cells:∀q∈Q,lA w q.2 #[.string q.1.s,.int .i64 q.1.n] 151
 row:w.ownsRow 0 309 2 iv hs.length (kH hs)
 heap:vH hs
 perm:(hs.map (·.b)).Perm (Q.map (·.2))
 early:∀h∈hs,∀q∈Q,q.2=h.b→h.t≤q.1.n
 rm:oB (·.s) t.mets
 rs:oB (·.s) t.sers
 sx:S x
 sl:S lm
 ss:S sm
 sc:S cm
 sq:∀q∈Q,S q.2
 si:∀g,iv.ownBlock=some g→S g
 d1:lm≠sm
 d2:lm≠cm
 d3:sm≠cm
 nd:(Q.map (·.2)).Nodup
 dx:∀q∈Q,q.2≠x
 di:∀g,iv.ownBlock=some g→g≠x∧∀q∈Q,q.2≠g
def zB (w:World) (S:Nat→Prop) (x:Nat) (t:cA) (M:Nat):Prop:=∃lm sm cm iv Q hs D,wM w S x t M lm sm cm iv Q hs D
theorem aAp {w:World}{B:Nat}{e:TypeId}{size:Nat}{v:Value}{n:Nat}{xs:List Value} (h:w.ownsRow B e size v n xs):∀g,v.ownBlock=some g→g<w.heap.size:=by
 intro g hg;rcases h.2 with ⟨rfl,_⟩ | ⟨g',cap,cur,rfl,_,hb,_⟩
 ·cases hg
 ·simp only [Value.ownBlock,Option.some.injEq] at hg;subst hg;exact aA hb
theorem wM.keep {w w':World}{S S':Nat→Prop}{x:Nat}{t:cA}{M lm sm cm:Nat}{iv:Value}{Q:List (gA×Nat)}{hs:List rF}{D:DataW Unit} (h:wM w S x t M lm sm cm iv Q hs D)
 (hk:∀g,g<w.heap.size→S g→w'.heap[g]?=w.heap[g]?∧S' g):wM w' S' x t M lm sm cm iv Q hs D:=by
 have hm:∀{R:Value→Option (DataW Unit×List MemPlace)}{b n:Nat}{E:DataW Unit},w.ownsMap Tryz.prog 9 R b n E→S b→w'.ownsMap Tryz.prog 9 R b n E:=fun {R b n E} h hs=>by
  have hlt:=h.lt;obtain ⟨es,clock,hb,r⟩:=h;exact ⟨es,clock,(hk b hlt hs).1.trans hb,r⟩
 have hb:∀{g:Nat}{cur:Array Value}{tt:TypeId},lA w g cur tt→S g→lA w' g cur tt:=fun {g cur tt} h hs=>(hk g (aA h) hs).1.trans h;exact { h with
  blk:=hb h.blk h.sx
  lims:=hm h.lims h.sl
  sers:=hm h.sers h.ss
  cnts:=hm h.cnts h.sc
  cells:=fun q hq=>hb (h.cells q hq) (h.sq q hq)
  row:=by
   refine ⟨h.row.1,?_⟩;rcases h.row.2 with h0 | ⟨g,cap,cur,e,hB,hblk,r⟩
   ·exact Or.inl h0
   ·have:iv.ownBlock=some g:=by rw [e];rfl
    exact Or.inr ⟨g,cap,cur,e,hB,hb hblk (h.si g this),r⟩
  sx:=(hk x (aA h.blk) h.sx).2
  sl:=(hk lm h.lims.lt h.sl).2
  ss:=(hk sm h.sers.lt h.ss).2
  sc:=(hk cm h.cnts.lt h.sc).2
  sq:=fun q hq=>(hk q.2 (aA (h.cells q hq)) (h.sq q hq)).2
  si:=fun g hg=>(hk g (aAp h.row g hg) (h.si g hg)).2}
theorem zB.keep {w w':World}{S S':Nat→Prop}{x:Nat}{t:cA}{M:Nat} (h:zB w S x t M) (hk:∀g,g<w.heap.size→S g→w'.heap[g]?=w.heap[g]?∧S' g):zB w' S' x t M:=by
 obtain ⟨lm,sm,cm,iv,Q,hs,D,h⟩:=h;exact ⟨lm,sm,cm,iv,Q,hs,D,h.keep hk⟩
theorem zB.later {w w':World}{S:Nat→Prop}{x:Nat}{t:cA}{M:Nat} (h:zB w S x t M) (hb:Below w.heap.size w w'):zB w' S x t M:=h.keep fun g hg hs=>⟨hb.block g hg,hs⟩
theorem zB.lt {w:World}{S:Nat→Prop}{x:Nat}{t:cA}{M:Nat} (h:zB w S x t M):x<w.heap.size:=by
 obtain ⟨lm,sm,cm,iv,Q,hs,D,h⟩:=h;exact aA h.blk
theorem zB.mono {w:World}{S:Nat→Prop}{x:Nat}{t:cA}{M M':Nat} (h:zB w S x t M) (hM:M≤M'):zB w S x t M':=by
 obtain ⟨lm,sm,cm,iv,Q,hs,D,h⟩:=h;exact ⟨lm,sm,cm,iv,Q,hs,D,{ h with cnts:=h.cnts.mono hM}⟩
theorem nX (limit:Int) (nm:ByteArray) (w:World):
 Calls Tryz.prog 147 #[.int .i64 limit] w fun e w'=>∃x,e=.returned (.pointer (some ⟨x,0,none⟩))∧w.heap.size≤x∧zB w' (fun g=>w.heap.size≤g) x ⟨nm,limit,[],[]⟩ 0∧Below w.heap.size w w':=by
 have hmm:=@run_makeMap Tryz.prog;go_enter Tryz.func147,Tryz.ntmps147;go_wp2;go_ret;refine ⟨w.heap.size+1+1+1,rfl,by omega,⟨w.heap.size,w.heap.size+1,w.heap.size+1+1,.slice none 0 0,[],[],.map [],?_⟩,rA (rA (rA (bA _ _) (bA _ _)) (bA _ _)) (bA _ _)⟩;have m1:∀R:Value→Option (DataW Unit×List MemPlace),(w.alloc (.map #[] 0)).ownsMap Tryz.prog 9 R w.heap.size 0 (.map []):=fun R=>World.ownsMap_made w _ _ R;have m2:∀R:Value→Option (DataW Unit×List MemPlace),((w.alloc (.map #[] 0)).alloc (.map #[] 0)).ownsMap Tryz.prog 9 R (w.heap.size+1) 0 (.map []):=fun R=>by have:=World.ownsMap_made (w.alloc (.map #[] 0)) Tryz.prog 9 R;simpa using this
 have m3:∀R:Value→Option (DataW Unit×List MemPlace),(((w.alloc (.map #[] 0)).alloc (.map #[] 0)).alloc (.map #[] 0)).ownsMap Tryz.prog 9 R (w.heap.size+1+1) 0 (.map []):=fun R=>by have:=World.ownsMap_made ((w.alloc (.map #[] 0)).alloc (.map #[] 0)) Tryz.prog 9 R;simpa using this
 exact {
  blk:=by have:=lA.new (((w.alloc (.map #[] 0)).alloc (.map #[] 0)).alloc (.map #[] 0)) #[.int .i64 limit,.map (some w.heap.size),.map (some (w.heap.size+1)),.map (some (w.heap.size+1+1)),.slice none 0 0] 229;simpa using this
  lims:=(((m1 _).alloc _).alloc _).alloc _
  sers:=((m2 _).alloc _).alloc _
  cnts:=(m3 _).alloc _
  cnt:=fun m=>rfl
  q1:=rfl
  cells:=fun q hq=>by cases hq
  row:=World.ownsRow_nil _ _ _ _
  heap:=fun i _ h=>by simp at h
  perm:=List.Perm.refl _
  early:=fun h hh=>by cases hh
  rm:=List.Pairwise.nil
  rs:=List.Pairwise.nil
  sx:=by show w.heap.size≤_;omega
  sl:=Nat.le_refl _
  ss:=by show w.heap.size≤_;omega
  sc:=by show w.heap.size≤_;omega
  sq:=fun q hq=>by cases hq
  si:=fun g hg=>by cases hg
  d1:=by omega
  d2:=by omega
  d3:=by omega
  nd:=List.nodup_nil
  dx:=fun q hq=>by cases hq
  di:=fun g hg=>by cases hg}
theorem xW (x:Nat) (t:cA) (S:Nat→Prop) (M:Nat) (w:World) (h:zB w S x t M):
 Calls Tryz.prog 150 #[.pointer (some ⟨x,0,none⟩)] w fun e w'=>e=.returned (.bool (dD t))∧w'=w:=by
 obtain ⟨lm,sm,cm,iv,Q,hs,D,h⟩:=h;have c0:w.cell? ⟨x,0,none⟩=some (.int .i64 t.limit):=h.blk.cell 0;have c1:w.cell? ⟨x,1,none⟩=some (.map (some lm)):=h.blk.cell 1;have c2:w.cell? ⟨x,2,none⟩=some (.map (some sm)):=h.blk.cell 2;have l1:=h.lims.len Tryz.underlying223 3;have l2:=h.sers.len Tryz.underlying224 3;rw [oI] at l1 l2;have hq:Q.length=t.sers.length:=by rw [←h.q1,List.length_map]
 rw [hq] at l2;clear h hq;have E:Hid (dD t=(t.limit==-1&&t.mets.length==0&&t.sers.length==0)):=rfl;generalize t.mets.length=n1 at *;generalize t.sers.length=n2 at *;generalize t.limit=L at *;by_cases h1:L = -1
 ·by_cases h2:n1=0
  ·go_enter Tryz.func150,Tryz.ntmps150;go_wp2;go_ret;exact ⟨jA (by rw [E.out,h1,h2];rw [Bool.eq_iff_iff];simp),rfl⟩
  ·go_enter Tryz.func150,Tryz.ntmps150;go_wp2;go_ret;exact ⟨jA (by rw [E.out,h1];rw [Bool.eq_iff_iff];simp [h2]),rfl⟩
 ·go_enter Tryz.func150,Tryz.ntmps150;go_wp2;go_ret;exact ⟨jA (by rw [E.out];rw [Bool.eq_iff_iff];simp [h1]),rfl⟩
end Go.Proofs.YtcneojllbkacoaaGreatDoor
namespace Go.Proofs.YtcneojllbkacoaaGreatDoor
open Go.RowKit Go.Maps
theorem DC (w:World):(zeroValue 3).run Tryz.prog w=.ok (.int .i64 0) w:=by kernel_rfl
theorem nB {H:Type}{P:Program}{w:World}{k:TypeId}{R:Value→Option (DataW H×List MemPlace)}{b n g:Nat}{D:DataW H}{cur:Array Value}{t:TypeId} (h:w.ownsMap P k R b n D) (hb:lA w g cur t):b≠g:=by
 intro e;subst e;obtain ⟨es,clock,hm,_⟩:=h;rw [lA,hm] at hb;simp at hb
theorem dE {H:Type}{P:Program}{w:World}{k:TypeId}{R:Value→Option (DataW H×List MemPlace)}{b n:Nat}{D:DataW H}{B:Nat}{e:TypeId}{size:Nat}{v:Value}{m:Nat}{xs:List Value} (h:w.ownsMap P k R b n D) (hr:w.ownsRow B e size v m xs):v.ownBlock≠some b:=by
 intro hg;rcases hr.2 with ⟨rfl,_⟩ | ⟨g',cap,cur,rfl,_,hb,_⟩
 ·cases hg
 ·simp only [Value.ownBlock,Option.some.injEq] at hg;subst hg;exact nB h hb rfl
theorem wM.newLims {w w':World}{S:Nat→Prop}{x:Nat}{t:cA}{M lm sm cm n:Nat}{iv:Value}{Q:List (gA×Nat)}{hs:List rF}{D E:DataW Unit}{ms:List gA} (h:wM w S x t M lm sm cm iv Q hs D) (ht:dA (·=lm) w w')
 (hown:w'.ownsMap Tryz.prog 9 (plainElem Tryz.prog 3) lm n E) (hE:E=kC (ms.map fun p=>(p.s,uF p.n))) (hr:oB (·.s) ms):zB w' S x { t with mets:=ms} M:=by
 subst hE;refine ⟨lm,sm,cm,iv,Q,hs,D,?_⟩;exact { h with
  blk:=ht.blk h.blk (nB h.lims h.blk).symm
  lims:=by have:=II hown;rw [oI] at this;exact this
  sers:=ht.map h.sers h.d1.symm
  cnts:=ht.map h.cnts h.d2.symm
  cells:=fun q hq=>ht.blk (h.cells q hq) (nB h.lims (h.cells q hq)).symm
  row:=ht.row h.row (fun g hg e=>by subst e;exact dE h.lims h.row hg)
  rm:=hr}
theorem aLn {w w2 w3 w4:World}{S:Nat→Prop}{x:Nat}{t:cA}{M lm sm cm:Nat}{iv:Value}{Q:List (gA×Nat)}{hs:List rF}{D:DataW Unit}{key:ByteArray}{last c:Int}{g cap:Nat} (h:wM w S x t M lm sm cm iv Q hs D) (hnew:cB (·.s) key t.sers=none)
 (t13:dA (fun k=>k=sm∨k=cm) w w3) (own2:w2.ownsMap Tryz.prog 9 wC sm (Q.length+1) (DataW.put (kC (Q.map fun q=>(q.1.s,kD q.2))) (kL key) (kD w.heap.size))) (t3:dA (·=cm) w2 w3)
 (own4:w3.ownsMap Tryz.prog 9 (plainElem Tryz.prog 3) cm (M+1) (D.put (kL (bC key)) (.lit (.int .i64 (c+1))))) (b3:lA w3 w.heap.size #[.string key,.int .i64 last] 151) (hc:c=(mF bC t.sers (bC key):Nat))
 (hb4:lA w4 x (#[.int .i64 t.limit,.map (some lm),.map (some sm),.map (some cm),iv].setIfInBounds 4 (.slice (some ⟨g,0,none⟩) (hs.length+1) cap)) 229)
 (hr4:w4.ownsRow 0 309 2 (.slice (some ⟨g,0,none⟩) (hs.length+1) cap) (hs.length+1) (kH (vM hs ⟨w.heap.size,last⟩))) (hloc:iv.ownBlock=some g∨w3.heap.size≤g) (t4:dA (fun k=>k=x∨iv.ownBlock=some k) w3 w4):
 zB w4 (fun g=>S g∨w.heap.size≤g) x { t with sers:=tA (·.s) ⟨key,last⟩ t.sers} (M+1)∧dA S w w4:=by
 have hxl:=aA h.blk;have hbl:=aA b3;have nx1:=nB h.sers h.blk;have nx2:=nB h.cnts h.blk;have nx0:=nB h.lims h.blk;have ni0:=dE h.lims h.row;have ni1:=dE h.sers h.row;have ni2:=dE h.cnts h.row;have qlt:=fun q hq=>aA (h.cells q hq);have hgetQ:cB (fun q:gA×Nat=>q.1.s) key Q=none:=by
  have:=wK (key:=fun q:gA×Nat=>q.1.s) (key':=fun p:gA=>p.s) (fun q=>q.1) (fun _=>rfl) key Q;rw [h.q1,hnew] at this;cases hg:cB (fun q:gA×Nat=>q.1.s) key Q with
  | none=>rfl
  | some q=>rw [hg] at this;cases this
 have hpq:=zY (key:=fun q:gA×Nat=>q.1.s) (a:=((⟨key,last⟩:gA),w.heap.size)) hgetQ;have hps:=zY (key:=fun p:gA=>p.s) (a:=(⟨key,last⟩:gA)) hnew;have hlen:(tA (fun q:gA×Nat=>q.1.s) ((⟨key,last⟩:gA),w.heap.size) Q).length=Q.length+1:=by rw [hpq.length_eq];rfl
 have hrq:oB (fun q:gA×Nat=>q.1.s) Q:=by
  rw [←fO (key':=fun p:gA=>p.s) (fun q:gA×Nat=>q.1) (fun _=>rfl),h.q1];exact h.rs
 obtain ⟨ph,pp,pl⟩:=mV h.heap ⟨w.heap.size,last⟩;have hput:DataW.put (kC (Q.map fun q=>(q.1.s,kD q.2))) (kL key) (kD w.heap.size)=kC ((tA (fun q:gA×Nat=>q.1.s) ((⟨key,last⟩:gA),w.heap.size) Q).map fun q=>(q.1.s,kD q.2)):=
  fZ (key:=fun q:gA×Nat=>q.1.s) (fun q=>kD q.2) ((⟨key,last⟩:gA),w.heap.size) hrq
 have hmemQ:∀q,q∈tA (fun q:gA×Nat=>q.1.s) ((⟨key,last⟩:gA),w.heap.size) Q→q=((⟨key,last⟩:gA),w.heap.size)∨q∈Q:=fun q hq=>pH hq;have hbmem:∀s∈hs,∃q∈Q,q.2=s.b:=fun s hs'=>by
  have:=(h.perm.mem_iff (a:=s.b)).1 (List.mem_map.2 ⟨s,hs',rfl⟩);obtain ⟨q,hq,e⟩:=List.mem_map.1 this;exact ⟨q,hq,e⟩
 refine ⟨⟨lm,sm,cm,.slice (some ⟨g,0,none⟩) (hs.length+1) cap,tA (fun q:gA×Nat=>q.1.s) ((⟨key,last⟩:gA),w.heap.size) Q,vM hs ⟨w.heap.size,last⟩,D.put (kL (bC key)) (.lit (.int .i64 (c+1))),?_⟩,?_⟩
 ·exact {
   blk:=hb4
   lims:=t4.map (t13.map h.lims (fun e=>by rcases e with e | e;exact h.d1 e;exact h.d2 e)) (fun e=>by rcases e with e | e;exact nx0 e;exact ni0 e)
   sers:=by
    rw [←hput,hlen];exact t4.map (t3.map own2 h.d3) (fun e=>by rcases e with e | e;exact nx1 e;exact ni1 e)
   cnts:=t4.map own4 (fun e=>by rcases e with e | e;exact nx2 e;exact ni2 e)
   cnt:=fun m=>by
    rw [KG hps m,KF];by_cases e:bC key=m
    ·rw [if_pos e,←e,atKey_put_same (k:=kL (bC key)) h.cnts.isMap trivial,hc];rfl
    ·rw [if_neg e,atKey_put_other (fun e'=>e (aJa e').symm),h.cnt m];rfl
   q1:=by
    rw [oH (key':=fun p:gA=>p.s) (fun q:gA×Nat=>q.1) (fun _=>rfl),h.q1]
   cells:=fun q hq=>by
    rcases hmemQ q hq with rfl | hq
    ·exact t4.blk b3 (fun e=>by rcases e with e | e;simp only at e;omega;have:=aAp h.row _ e;simp only at this;omega)
    ·exact t4.blk (t13.blk (h.cells q hq) (fun e=>by rcases e with e | e;exact nB h.sers (h.cells q hq) e.symm;exact nB h.cnts (h.cells q hq) e.symm)) (fun e=>by rcases e with e | e;exact h.dx q hq e;exact (h.di _ e).2 q hq rfl)
   row:=by rw [pl];exact hr4
   heap:=ph
   perm:=by
    refine (pp.map _).trans ?_;refine List.Perm.trans ?_ (hpq.map _).symm;exact List.Perm.cons _ h.perm
   early:=fun s hs' q hq e=>by
    rcases List.mem_cons.1 ((pp.mem_iff).1 hs') with rfl | hs'
    ·rcases hmemQ q hq with rfl | hq
     ·exact Int.le_refl _
     ·have:=qlt q hq;simp only at e;omega
    ·rcases hmemQ q hq with rfl | hq
     ·obtain ⟨q',hq',e'⟩:=hbmem s hs';have:=qlt q' hq';simp only at e;omega
     ·exact h.early s hs' q hq e
   rm:=h.rm
   rs:=dH h.rs
   sx:=Or.inl h.sx
   sl:=Or.inl h.sl
   ss:=Or.inl h.ss
   sc:=Or.inl h.sc
   sq:=fun q hq=>by
    rcases hmemQ q hq with rfl | hq
    ·exact Or.inr (Nat.le_refl _)
    ·exact Or.inl (h.sq q hq)
   si:=fun g' hg'=>by
    simp only [Value.ownBlock,Option.some.injEq] at hg';subst hg';rcases hloc with e | e
    ·exact Or.inl (h.si g e)
    ·exact Or.inr (by have:=t13.size;omega)
   d1:=h.d1
   d2:=h.d2
   d3:=h.d3
   nd:=by
    rw [(hpq.map _).nodup_iff,List.map_cons,List.nodup_cons];refine ⟨fun hm=>?_,h.nd⟩;obtain ⟨q,hq,e⟩:=List.mem_map.1 hm;have:=qlt q hq;simp only at e;omega
   dx:=fun q hq=>by
    rcases hmemQ q hq with rfl | hq
    ·simp only;omega
    ·exact h.dx q hq
   di:=fun g' hg'=>by
    simp only [Value.ownBlock,Option.some.injEq] at hg';subst hg';rcases hloc with e | e
    ·refine ⟨(h.di g e).1,fun q hq=>?_⟩;rcases hmemQ q hq with rfl | hq
     ·have:=aAp h.row g e;simp only;omega
     ·exact (h.di g e).2 q hq
    ·refine ⟨by omega,fun q hq=>?_⟩;rcases hmemQ q hq with rfl | hq
     ·simp only;omega
     ·have:=qlt q hq;omega}
 ·refine (t13.mono fun k _ e=>by rcases e with rfl | rfl;exact h.ss;exact h.sc).trans (t4.mono fun k _ e=>?_);rcases e with rfl | e
  ·exact Or.inl h.sx
  ·exact Or.inl (h.si _ e)
theorem aBr (x:Nat) (t:cA) (key:ByteArray) (last:Int) (S:Nat→Prop) (M:Nat) (w:World) (h:zB w S x t M) (hnew:cB (·.s) key t.sers=none) (hk:key.size≤maxLen) (hm:(bC key).size≤maxLen) (hM:M≤1000000000) (hl:t.sers.length≤1000000000):
 Calls Tryz.prog 190 #[.pointer (some ⟨x,0,none⟩),.string key,.string (bC key),.int .i64 last] w fun e w'=>e=.returned (.tuple #[])∧zB w' (fun g=>S g∨w.heap.size≤g) x { t with sers:=tA (·.s) ⟨key,last⟩ t.sers} (M+1)∧dA S w w':=by
 obtain ⟨lm,sm,cm,iv,Q,hs,D,h⟩:=h;have HK:Hid _:=uI hk;have HM:Hid _:=uI hm;have hQ:Q.length=t.sers.length:=by rw [←h.q1,List.length_map]
 have hH:hs.length=Q.length:=by have:=h.perm.length_eq;simpa using this
 have HI:Hid _:=h;have hxl:=aA h.blk;obtain ⟨w1,hw1⟩:∃W,W=w.alloc (.cells #[.string key,.int .i64 last] 151):=⟨_,rfl⟩
 have t1:dA (fun _=>False) w w1:=by rw [hw1];exact dA.of (bA _ _)
 have b1:lA w1 w.heap.size #[.string key,.int .i64 last] 151:=by rw [hw1];exact lA.new _ _ _
 obtain ⟨w2,run2,own2,gr2⟩:=(t1.map h.sers (fun e=>e)).update zG Tryz.underlying224 (by unfold maxLen;omega) HK.out (dL w.heap.size);have t2:dA (·=sm) w1 w2:=(dA.grown gr2).mono fun i _ e=>by simp only [Option.some.injEq] at e;exact e.symm
 have t12:=(t1.mono fun _ _ e=>e.elim).trans' t2;have own3:=t12.map h.cnts (Ne.symm h.d3);obtain ⟨c,runL,hat,hwc⟩:=own3.lookup_int zG Tryz.underlying223 Tryz.underlying3 (DC _) HM.out;have hc:c=(mF bC t.sers (bC key):Nat):=by
  have:=h.cnt (bC key);unfold uF at this;rw [hat] at this;simpa using this
 have hc0:=NT bC t.sers (bC key);have hcl:0≤c:=by omega
 have hcu:c≤1000000000:=by omega
 obtain ⟨w3,run3,own4,gr3⟩:=own3.update zG Tryz.underlying223 (by unfold maxLen;omega) (val:=.int .i64 (c+1)) HM.out (plainElem_int Tryz.underlying3 (WalkArith.wf_i64 (by omega)));have t3:dA (·=cm) w2 w3:=(dA.grown gr3).mono fun i _ e=>by simp only [Option.some.injEq] at e;exact e.symm
 have t13:=(t12.mono fun _ _ e=>Or.inl e).trans' (t3.mono fun _ _ e=>Or.inr e);have nx1:=nB h.sers h.blk;have nx2:=nB h.cnts h.blk;have blk1:lA w1 x _ _:=t1.blk h.blk (fun e=>e);have blk2:lA w2 x _ _:=t12.blk h.blk nx1.symm;have blk3:lA w3 x _ _:=t13.blk h.blk (fun e=>by rcases e with e | e;exact nx1 e.symm;exact nx2 e.symm);have row3:=t13.row h.row (fun g hg e=>by rcases e with rfl | rfl;exact dE h.sers h.row hg;exact dE h.cnts h.row hg);have c1:w1.cell? ⟨x,2,none⟩=some (.map (some sm)):=blk1.cell 2;have c2:w2.cell? ⟨x,3,none⟩=some (.map (some cm)):=blk2.cell 3;have HP:Hid (Calls Tryz.prog 222 #[.pointer (some ⟨x,4,none⟩),.agg #[.pointer (some ⟨w.heap.size,0,none⟩),.int .i64 last]] w3 fun e w'=>e=.returned (.tuple #[])∧∃g cap,lA w' x (#[.int .i64 t.limit,.map (some lm),.map (some sm),.map (some cm),iv].setIfInBounds 4 (.slice (some ⟨g,0,none⟩) (hs.length+1) cap)) 229∧
  w'.ownsRow 0 309 2 (.slice (some ⟨g,0,none⟩) (hs.length+1) cap) (hs.length+1) (kH (vM hs ⟨w.heap.size,last⟩))∧(iv.ownBlock=some g∨w3.heap.size≤g)∧dA (fun k=>k=x∨iv.ownBlock=some k) w3 w'):=
  WD x 4 0 iv hs ⟨w.heap.size,last⟩ w3 _ _ blk3 rfl row3 (fun e=>(h.di x e).1 rfl) (Nat.zero_le _) (by omega)
 have T13:Hid _:=t13;have OWN2:Hid (w2.ownsMap Tryz.prog 9 wC sm (Q.length+1) (DataW.put (kC (Q.map fun q=>(q.1.s,kD q.2))) (kL key) (kD w.heap.size))):=own2;have OWN4:Hid (w3.ownsMap Tryz.prog 9 (plainElem Tryz.prog 3) cm (M+1) (D.put (kL (bC key)) (.lit (.int .i64 (c+1))))):=own4;have T3:Hid _:=t3;have B3:Hid (lA w3 w.heap.size #[.string key,.int .i64 last] 151):=((t2.mono (S':=fun k=>k=sm∨k=cm) fun _ _ e=>Or.inl e).trans' (t3.mono fun _ _ e=>Or.inr e)).blk b1 (fun e=>by have:=h.sers.lt;have:=h.cnts.lt;rcases e with e | e<;>omega);have HCD:Hid _:=hc;rw [hw1] at run2 c1;clear h hk hm hw1 t1 b1 own2 gr2 t2 t12 own3 hat hwc hc hc0 own4 gr3 t3 t13 blk1 blk2 blk3 row3;go_enter Tryz.func190,Tryz.ntmps190;go_wp2_with fail;refine HP.out.mono ?_;rintro e w4 ⟨rfl,g,cap,hb4,hr4,hloc,ht4⟩;have HF:=aLn HI.out hnew T13.out OWN2.out T3.out OWN4.out B3.out HCD.out hb4 hr4 hloc ht4;clear HP HI T13 OWN2 T3 OWN4 B3 hb4 hr4 hloc ht4;have HFF:Hid _:=iA HF;clear HF;go_wp2;go_end0;exact ⟨rfl,HFF.out⟩
end Go.Proofs.YtcneojllbkacoaaGreatDoor
