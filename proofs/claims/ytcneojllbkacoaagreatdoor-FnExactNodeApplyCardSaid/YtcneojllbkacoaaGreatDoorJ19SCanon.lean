import Derived.Test.YtcneojllbkacoaaGreatDoorJ15LabF
import Derived.Test.YtcneojllbkacoaaGreatDoorJ12SName
set_option maxRecDepth 100000
set_option maxHeartbeats 2000000
namespace Go.Proofs.YtcneojllbkacoaaGreatDoor
open Go.RowKit
def OS : Array Oper := #[{ dst := some 101, op := Op.buildSlice 198 0 #[], type := 198, pos := "l3_labels.go:111", after := #[], guard := none },
 { dst := some 102, op := Op.move (Operand.tmp 13), type := 198, pos := "l3_labels.go:111", after := #[], guard := none },
 { dst := some 103, op := Op.move (Operand.tmp 17), type := 3, pos := "l3_labels.go:111", after := #[], guard := none },
 { dst := some 104, op := Op.slice 198 (Operand.tmp 102) none (some (Operand.tmp 103)) none, type := 198, pos := "l3_labels.go:111", after := #[{ on := 1, ground := Ground.data }, { on := 2, ground := Ground.data }], guard := none },
 { dst := some 105, op := Op.call { callee := Callee.builtin Builtin.append, args := #[Operand.tmp 101, Operand.tmp 104], argTypes := #[198, 198] }, type := 198, pos := "l3_labels.go:111", after := #[{ on := 0, ground := Ground.data }, { on := 3, ground := Ground.data }], guard := none },
 { dst := some 106, op := Op.load 202 (Operand.tmp 16), type := 202, pos := "l3_labels.go:111", after := #[], guard := none },
 { dst := some 107, op := Op.buildSlice 198 1 #[(0, Operand.tmp 106)], type := 198, pos := "l3_labels.go:111", after := #[{ on := 5, ground := Ground.data }], guard := none },
 { dst := some 108, op := Op.call { callee := Callee.builtin Builtin.append, args := #[Operand.tmp 105, Operand.tmp 107], argTypes := #[198, 198] }, type := 198, pos := "l3_labels.go:111", after := #[{ on := 4, ground := Ground.data }, { on := 6, ground := Ground.data }, { on := 4, ground := Ground.chain }], guard := none },
 { dst := some 109, op := Op.move (Operand.tmp 13), type := 198, pos := "l3_labels.go:111", after := #[], guard := none },
 { dst := some 110, op := Op.move (Operand.tmp 17), type := 3, pos := "l3_labels.go:111", after := #[], guard := none },
 { dst := some 111, op := Op.slice 198 (Operand.tmp 109) (some (Operand.tmp 110)) none none, type := 198, pos := "l3_labels.go:111", after := #[{ on := 8, ground := Ground.data }, { on := 9, ground := Ground.data }], guard := none },
 { dst := some 112, op := Op.call { callee := Callee.builtin Builtin.append, args := #[Operand.tmp 108, Operand.tmp 111], argTypes := #[198, 198] }, type := 198, pos := "l3_labels.go:111", after := #[{ on := 7, ground := Ground.data }, { on := 10, ground := Ground.data }, { on := 7, ground := Ground.chain }], guard := none },
 { dst := some 13, op := Op.assign (Operand.tmp 112), type := 198, pos := "l3_labels.go:111", after := #[{ on := 11, ground := Ground.data }, { on := 11, ground := Ground.chain }, { on := 0, ground := Ground.phase }, { on := 1, ground := Ground.phase }, { on := 2, ground := Ground.phase }, { on := 3, ground := Ground.phase }, { on := 4, ground := Ground.phase }, { on := 5, ground := Ground.phase }, { on := 6, ground := Ground.phase }, { on := 7, ground := Ground.phase }, { on := 8, ground := Ground.phase }, { on := 9, ground := Ground.phase }, { on := 10, ground := Ground.phase }, { on := 11, ground := Ground.phase }], guard := none }]
section
variable {P:Program}{ops:Array Oper}{Q:Exit→Act→World→Prop}{S:World→Prop}{o:Oper}{a:Act}{w w':World}{v:Value}{K:Act→World→Prop}
theorem jK {i:Nat} (hi:ops[i]?=some o) (hg:o.guard=none) (h:o.wp P a w K Q):wpOp P ops Q i K a w:=by
 unfold wpOp;rw [hi];simp only;rw [if_pos (by simp [Region.wanted,hg])];exact Or.inl h
theorem nN (hr:(execOp a.eval o).run P w=.ok (.value v) w') (h:K (a.put o.dst v) w'):o.wp P a w K Q:=by
 unfold Oper.wp;rw [hr];exact h
theorem mL (hg:o.guard=none) (h:∀w,S w→(execOp a.eval o).run P w=.ok (.value v) w):YieldsIf P ops S o v a:=
 Or.inl ⟨by simp [Region.wanted,hg],h⟩
end
theorem zE (a:Act) (d:Nat) (v:Value) (h:d<a.tmps.size):(a.put (some d) v).eval (.tmp d)=v:=by
 simp [Act.put,Act.eval,Array.getD,h]
theorem vC (a:Act){d k:Nat} (v:Value) (h:k≠d):(a.put (some d) v).eval (.tmp k)=a.eval (.tmp k):=
 Act.eval_put (fun d' e=>by
  simp only [Option.some.injEq] at e;subst e;intro h2;simp only [Operand.tmp.injEq] at h2;exact h h2)
theorem size_put (a:Act) (d:Option Tmp) (v:Value):(a.put d v).tmps.size=a.tmps.size:=by cases d<;>simp [Act.put]
theorem yX {P:Program}{o:Oper}{a:Act}{x:Operand}{v:Value} (ho:o.op=.move x) (hx:a.eval x=v) (w:World):(execOp a.eval o).run P w=.ok (.value v) w:=by
 simp [execOp,ho,hx]
theorem aAq {P:Program}{o:Oper}{a:Act}{x:Operand}{v:Value} (ho:o.op=.assign x) (hx:a.eval x=v) (w:World):(execOp a.eval o).run P w=.ok (.value v) w:=by
 simp [execOp,ho,hx]
theorem aKr {o:Oper}{a:Act}{x y:Operand}{g n cv m:Nat} (ho:o.op=.slice 198 x none (some y) none) (hx:a.eval x=.slice (some ⟨g,0,none⟩) n cv) (hy:a.eval y=.int .i64 (m:Nat)) (hm:m≤cv) (w:World):
 (execOp a.eval o).run Tryz.prog w=.ok (.value (.slice (some ⟨g,0,none⟩) m cv)) w:=by
 have h0:(0:Int)≤(m:Int):=by omega
 have h1:(m:Int)≤(cv:Int):=by omega
 simp only [execOp,ho,hx,hy,Option.map_some,Option.map_none];simp [go_sem,h0,h1]
theorem aKs {o:Oper}{a:Act}{x y:Operand}{g n cv m:Nat} (ho:o.op=.slice 198 x (some y) none none) (hx:a.eval x=.slice (some ⟨g,0,none⟩) n cv) (hy:a.eval y=.int .i64 (m:Nat)) (hm:m≤n) (w:World):
 (execOp a.eval o).run Tryz.prog w=.ok (.value (.slice (if cv=m then some ⟨g,0,none⟩ else some ⟨g,m * 2,none⟩) (n - m) (cv - m))) w:=by
 have h0:(0:Int)≤(m:Int):=by omega
 have h1:(m:Int)≤(n:Int):=by omega
 simp only [execOp,ho,hx,hy,Option.map_some,Option.map_none];simp [go_sem,h0,h1]
theorem MI {o:Oper}{a:Act} (ho:o.op=.buildSlice 198 0 #[]) (w:World):
 (execOp a.eval o).run Tryz.prog w=.ok (.value (.slice (some ⟨w.heap.size,0,none⟩) 0 0)) (w.alloc (.cells #[] 202)):=by
 simp [execOp,ho,go_sem]
theorem pV {o:Oper}{a:Act}{x:Operand}{nm va:ByteArray} (ho:o.op=.buildSlice 198 1 #[(0,x)]) (hx:a.eval x=.agg #[.string nm,.string va]) (w:World):
 (execOp a.eval o).run Tryz.prog w=.ok (.value (.slice (some ⟨w.heap.size,0,none⟩) 1 1)) (w.alloc (.cells #[.string nm,.string va] 202)):=by
 simp only [execOp,ho,List.map_toArray,List.map_cons,List.map_nil,hx];simp [go_sem]
theorem aHd {o:Oper}{a:Act}{x:Operand}{B:Nat}{nm va:ByteArray} (ho:o.op=.load 202 x) (hx:a.eval x=.pointer (some ⟨B,0,none⟩)) (w:World) (h0:w.cell? ⟨B,0,none⟩=some (.string nm)) (h1:w.cell? ⟨B,1,none⟩=some (.string va)):
 (execOp a.eval o).run Tryz.prog w=.ok (.value (.agg #[.string nm,.string va])) w:=by
 simp only [execOp,ho,hx];simp [go_sem,h0,h1]
theorem rH {P:Program} (w:World){o:Oper}{a:Act}{K:Act→World→Prop}{Q:Exit→Act→World→Prop} (hgd:o.guard=none) (s x:Operand) (t:TypeId)
 (ho:o.op=.call { callee:=.builtin .append,args:=#[s,x],argTypes:=#[t,t] })
 (base:Nat) (e:TypeId) (i:TypeInfo) (z:Value) (size bytes:Nat) (ht:P.underlying t=some (.slice e)) (hi:P.info? e=some i) (hz:i.zero=some z)
 (hsize:i.size=size) (hby:i.bytes=bytes) (hzs:z.cells.size=size) (hsz:0<size)
 (g0 n c0:Nat) (xs:List Value) (hs:a.eval s=.slice (some ⟨g0,0,none⟩) n c0) (hown:w.ownsRow base e size (.slice (some ⟨g0,0,none⟩) n c0) n xs)
 (ad:Option Addr) (m c:Nat) (news:List Value) (hx:a.eval x=.slice ad m c) (hl:news.length=m * size) (hsrc:bS w ad m news) (h1:∀u∈news,u.oneCell'=true)
 (h63:n+m≤maxLen) (hbytes:(n+m) * bytes≤140737488355328) (hbase:base≤w.heap.size)
 (h:∀g cap w',w'.ownsRow base e size (.slice (some ⟨g,0,none⟩) (n+m) cap) (n+m) (xs++news)→Below base w w'→(∀k,k<w.heap.size→k≠g0→w'.heap[k]?=w.heap[k]?)→base≤g→(g=g0∨g=w.heap.size)→g<w'.heap.size→K (a.put o.dst (.slice (some ⟨g,0,none⟩) (n+m) cap)) w'):
 Oper.wp P o a w K Q:=by
 have hw:Region.wanted o (yielded #[] a.tmps)=true:=by simp [Region.wanted,hgd]
 have:=mH (P:=P) w (ops:=#[]) (E:=False) (Q:=Q) hgd s x t ho base e i z size bytes ht hi hz hsize hby hzs hsz g0 n c0 xs hs hown ad m c news hx hl hsrc h1 h63 hbytes hbase h;rwa [if_pos hw] at this
theorem FC (a:Act) (ys:List zA) (nm va:ByteArray) (g0 cv BX m:Nat) (ti:TypeInfo) (W2:World) (Q:Exit→Act→World→Prop) (hsz:118≤a.tmps.size)
 (h13:a.eval (.tmp 13)=.slice (some ⟨g0,0,none⟩) ys.length cv) (h16:a.eval (.tmp 16)=.pointer (some ⟨BX,0,none⟩)) (h17:a.eval (.tmp 17)=.int .i64 (m:Nat))
 (HI:Tryz.prog.info? 202=some ti) (hz0:ti.zero=some (.agg #[.string ByteArray.empty,.string ByteArray.empty])) (hz1:ti.size=2) (hz2:ti.bytes=32)
 (x0:W2.cell? ⟨BX,0,none⟩=some (.string nm)) (x1:W2.cell? ⟨BX,1,none⟩=some (.string va)) (hBX2:BX<W2.heap.size) (hm:m≤ys.length) (hcv:ys.length≤cv) (hlen:ys.length≤2000000) (hg2:g0<W2.heap.size)
 (HRC:∀j u,(sB ys)[j]?=some u→W2.cell? ⟨g0,j,none⟩=some u)
 (HQ:∀(v102 v103 v104 v106 v109 v110 v111 v101 v105 v107 v108:Value) (g7 cap7:Nat) (w7:World),w7.ownsRow W2.heap.size 202 2 (.slice (some ⟨g7,0,none⟩) (m+1+(ys.length - m)) cap7) (m+1+(ys.length - m)) (sB (ys.take m)++[.string nm,.string va]++sB (ys.drop m))→Below W2.heap.size W2 w7→
  Q .normal (((((((((((((a.put (some 102) v102).put (some 103) v103).put (some 104) v104).put (some 106) v106).put (some 109) v109).put (some 110) v110).put (some 111) v111).put (some 101) v101).put (some 105) v105).put (some 107) v107).put (some 108) v108).put (some 112) (.slice (some ⟨g7,0,none⟩) (m+1+(ys.length - m)) cap7)).put (some 13) (.slice (some ⟨g7,0,none⟩) (m+1+(ys.length - m)) cap7)) w7):
 Code.wp Tryz.prog (Code.region 33 OS true) Q a W2:=by
 have hmc:m≤cv:=by omega
 have hL1:(sB (ys.take m)).length=m * 2:=by rw [yM,List.length_take];omega
 have hL2:(sB (ys.drop m)).length=(ys.length - m) * 2:=by rw [yM,List.length_drop]
 let S:World→Prop:=fun w=>w.cell? ⟨BX,0,none⟩=some (.string nm)∧w.cell? ⟨BX,1,none⟩=some (.string va);have hS:∀w,Below W2.heap.size W2 w→S w:=fun w hb=>⟨(hb.cell hBX2).trans x0,(hb.cell hBX2).trans x1⟩
 have hz:(Value.agg #[.string ByteArray.empty,.string ByteArray.empty]).cells.size=2:=rfl;have tail:∀(b:Act) (w:World) (g5 cap5 BL:Nat),118≤b.tmps.size→b.eval (.tmp 105)=.slice (some ⟨g5,0,none⟩) m cap5→b.eval (.tmp 107)=.slice (some ⟨BL,0,none⟩) 1 1→
  b.eval (.tmp 111)=.slice (if cv=m then some ⟨g0,0,none⟩ else some ⟨g0,m * 2,none⟩) (ys.length - m) (cv - m)→
  w.ownsRow W2.heap.size 202 2 (.slice (some ⟨g5,0,none⟩) m cap5) m (sB (ys.take m))→w.heap[BL]?=some (.cells #[.string nm,.string va] 202 (0,0))→Below W2.heap.size W2 w→
  (∀(v108:Value) (g7 cap7:Nat) (w7:World),w7.ownsRow W2.heap.size 202 2 (.slice (some ⟨g7,0,none⟩) (m+1+(ys.length - m)) cap7) (m+1+(ys.length - m)) (sB (ys.take m)++[.string nm,.string va]++sB (ys.drop m))→Below W2.heap.size W2 w7→
   Q .normal (((b.put (some 108) v108).put (some 112) (.slice (some ⟨g7,0,none⟩) (m+1+(ys.length - m)) cap7)).put (some 13) (.slice (some ⟨g7,0,none⟩) (m+1+(ys.length - m)) cap7)) w7)→
  wpAnyH Tryz.prog .any OS (NoPanic Q) S 3 #[true,true,true,true,true,true,true,false,true,true,true,false,false] b w:=by
  intro b w g5 cap5 BL hb e105 e107 e111 hown hBL hbel hq;refine wpAnyH_all (rs:=[7]) (by kernel_rfl) (by simp) fun i hi=>?_;obtain rfl:i=7:=by simpa using hi
  refine jK rfl rfl ?_;refine rH w rfl _ _ _ rfl W2.heap.size 202 ti _ 2 32 Tryz.underlying198 HI hz0 hz1 hz2 hz (by omega) g5 m cap5 _ e105 hown _ 1 1 [.string nm,.string va] e107 rfl (aNh hBL) (by simp [Value.oneCell']) (by simp [maxLen];omega) (by omega) hbel.size ?_;intro g6 cap6 w6 hown6 hB6 _ _ _ _;have hc6:=hbel.trans hB6;refine ⟨hS _ hc6,?_⟩;refine wpAnyH_all (rs:=[11]) (by kernel_rfl) (by simp) fun i hi=>?_;obtain rfl:i=11:=by simpa using hi
  refine jK rfl rfl ?_;refine rH w6 rfl _ _ _ rfl W2.heap.size 202 ti _ 2 32 Tryz.underlying198 HI hz0 hz1 hz2 hz (by omega) g6 (m+1) cap6 _ (zE _ _ _ (by omega)) hown6 _ (ys.length - m) _ (sB (ys.drop m)) ((vC _ _ (by omega)).trans e111) hL2 (aKu (qO HRC hg2 hc6) m hcv) (yQ _) (by simp [maxLen];omega) (by omega) hc6.size ?_;intro g7 cap7 w7 hown7 hB7 _ _ _ _;have hc7:=hc6.trans hB7;refine ⟨hS _ hc7,?_⟩;refine wpAnyH_all (rs:=[12]) (by kernel_rfl) (by simp) fun i hi=>?_;obtain rfl:i=12:=by simpa using hi
  refine jK rfl rfl ?_;refine nN (aAq rfl (zE _ _ _ (by rw [size_put];omega)) w7) ⟨hS _ hc7,?_⟩;refine wpAnyH_done (by kernel_rfl) ?_ 0;exact NoPanic.normal (hq _ g7 cap7 w7 hown7 hc7)
 refine wp_region_noPanic (wp_region_held (S:=S) (by kernel_rfl) ?_);change wpAnyH Tryz.prog .any OS (NoPanic Q) S 13 (Array.replicate 13 false) a W2.drew;have hS0:=hS _ (Below.refl _ _).drew;refine wpAnyH_take (i:=1) rfl (by kernel_rfl) (by kernel_rfl) (by kernel_rfl) (fun _ _ _ h=>h) (mL rfl (fun w _=>yX rfl h13 w)) hS0 ?_;refine wpAnyH_take (i:=2) rfl (by kernel_rfl) (by kernel_rfl) (by kernel_rfl) (fun _ _ _ h=>h) (mL rfl (fun w _=>yX rfl ((vC _ _ (by omega)).trans h17) w)) hS0 ?_;refine wpAnyH_take (i:=3) rfl (by kernel_rfl) (by kernel_rfl) (by kernel_rfl) (fun _ _ _ h=>h) (mL rfl (fun w _=>aKr rfl ((vC _ _ (by omega)).trans (zE _ _ _ (by omega))) (zE _ _ _ (by rw [size_put];omega)) hmc w)) hS0 ?_;refine wpAnyH_take (i:=5) rfl (by kernel_rfl) (by kernel_rfl) (by kernel_rfl) (fun _ _ _ h=>h) (mL rfl (fun w hw=>aHd rfl ((vC _ _ (by omega)).trans ((vC _ _ (by omega)).trans ((vC _ _ (by omega)).trans h16))) w hw.1 hw.2)) hS0 ?_;refine wpAnyH_take (i:=8) rfl (by kernel_rfl) (by kernel_rfl) (by kernel_rfl) (fun _ _ _ h=>h) (mL rfl (fun w _=>yX rfl ((vC _ _ (by omega)).trans ((vC _ _ (by omega)).trans ((vC _ _ (by omega)).trans ((vC _ _ (by omega)).trans h13)))) w)) hS0 ?_;refine wpAnyH_take (i:=9) rfl (by kernel_rfl) (by kernel_rfl) (by kernel_rfl) (fun _ _ _ h=>h) (mL rfl (fun w _=>yX rfl ((vC _ _ (by omega)).trans ((vC _ _ (by omega)).trans ((vC _ _ (by omega)).trans ((vC _ _ (by omega)).trans ((vC _ _ (by omega)).trans h17))))) w)) hS0 ?_;refine wpAnyH_take (i:=10) rfl (by kernel_rfl) (by kernel_rfl) (by kernel_rfl) (fun _ _ _ h=>h) (mL rfl (fun w _=>aKs rfl ((vC _ _ (by omega)).trans (zE _ _ _ (by simp only [size_put];omega))) (zE _ _ _ (by simp only [size_put];omega)) hm w)) hS0 ?_;have hcur:Below W2.heap.size W2 W2.drew:=(Below.refl _ _).drew;generalize haP:Act.put _ _ _=aP;have q104:aP.eval (.tmp 104)=.slice (some ⟨g0,0,none⟩) m cv:=by
  rw [←haP];exact (vC _ _ (by omega)).trans ((vC _ _ (by omega)).trans ((vC _ _ (by omega)).trans ((vC _ _ (by omega)).trans (zE _ _ _ (by simp only [size_put];omega)))))
 have q106:aP.eval (.tmp 106)=.agg #[.string nm,.string va]:=by
  rw [←haP];exact (vC _ _ (by omega)).trans ((vC _ _ (by omega)).trans ((vC _ _ (by omega)).trans (zE _ _ _ (by simp only [size_put];omega))))
 have q111:aP.eval (.tmp 111)=.slice (if cv=m then some ⟨g0,0,none⟩ else some ⟨g0,m * 2,none⟩) (ys.length - m) (cv - m):=by
  rw [←haP];exact zE _ _ _ (by simp only [size_put];omega)
 have hszP:118≤aP.tmps.size:=by rw [←haP];simp only [size_put];omega
 have HQP:∀(v101 v105 v107 v108:Value) (g7 cap7:Nat) (w7:World),w7.ownsRow W2.heap.size 202 2 (.slice (some ⟨g7,0,none⟩) (m+1+(ys.length - m)) cap7) (m+1+(ys.length - m)) (sB (ys.take m)++[.string nm,.string va]++sB (ys.drop m))→Below W2.heap.size W2 w7→
  Q .normal ((((((aP.put (some 101) v101).put (some 105) v105).put (some 107) v107).put (some 108) v108).put (some 112) (.slice (some ⟨g7,0,none⟩) (m+1+(ys.length - m)) cap7)).put (some 13) (.slice (some ⟨g7,0,none⟩) (m+1+(ys.length - m)) cap7)) w7:=by
  rw [←haP];exact fun v101 v105 v107 v108=>HQ _ _ _ _ _ _ _ v101 v105 v107 v108
 clear haP HQ h13 h16 h17 hsz;have fin:∀(v101:Value) (g5 cap5 BL:Nat) (w:World),w.ownsRow W2.heap.size 202 2 (.slice (some ⟨g5,0,none⟩) m cap5) m (sB (ys.take m))→w.heap[BL]?=some (.cells #[.string nm,.string va] 202 (0,0))→Below W2.heap.size W2 w→
  wpAnyH Tryz.prog .any OS (NoPanic Q) S 3 #[true,true,true,true,true,true,true,false,true,true,true,false,false] (((aP.put (some 101) v101).put (some 105) (.slice (some ⟨g5,0,none⟩) m cap5)).put (some 107) (.slice (some ⟨BL,0,none⟩) 1 1)) w:=by
  intro v101 g5 cap5 BL w ho hl hb;refine tail _ w g5 cap5 BL (by simp only [size_put];omega) ((vC _ _ (by omega)).trans (zE _ _ _ (by simp only [size_put];omega))) (zE _ _ _ (by simp only [size_put];omega)) ((vC _ _ (by omega)).trans ((vC _ _ (by omega)).trans ((vC _ _ (by omega)).trans q111))) ho hl hb ?_;exact fun v108 g7 cap7 w7=>HQP v101 _ _ v108 g7 cap7 w7
 have c57:∀(b:Act) (x y:Value),(b.put (some 107) x).put (some 105) y=(b.put (some 105) y).put (some 107) x:=fun b x y=>Act.put_comm b x y (fun d hd h=>by rw [←hd] at h;exact absurd h (by simp));have c17:∀(b:Act) (x y:Value),(b.put (some 107) x).put (some 101) y=(b.put (some 101) y).put (some 107) x:=fun b x y=>Act.put_comm b x y (fun d hd h=>by rw [←hd] at h;exact absurd h (by simp));refine wpAnyH_all (rs:=[0,6]) (by kernel_rfl) (by simp) fun i hi=>?_;have hi2:i=0∨i=6:=by simpa using hi
 rcases hi2 with rfl | rfl
 ·refine jK rfl rfl (nN (MI rfl _) ⟨hS _ (eW W2 _),?_⟩);refine wpAnyH_all (rs:=[4,6]) (by kernel_rfl) (by simp) fun i hi=>?_;have hi2:i=4∨i=6:=by simpa using hi
  rcases hi2 with rfl | rfl
  ·refine jK rfl rfl ?_;refine rH _ rfl _ _ _ rfl W2.heap.size 202 ti _ 2 32 Tryz.underlying198 HI hz0 hz1 hz2 hz (by omega) W2.heap.size 0 0 [] (zE _ _ _ (by omega)) (aPb W2 _) _ m _ (sB (ys.take m)) ((vC _ _ (by omega)).trans q104) hL1 (GQ (qO HRC hg2 (eW W2 _)) m) (yQ _) (by simp [maxLen];omega) (by omega) (eW W2 _).size ?_;intro g5 cap5 w5 hown5 hB5 _ _ _ _;have hc5:=(eW W2 _).trans hB5;simp only [Nat.zero_add,List.nil_append] at hown5 ⊢;refine ⟨hS _ hc5,?_⟩;refine wpAnyH_all (rs:=[6]) (by kernel_rfl) (by simp) fun i hi=>?_;obtain rfl:i=6:=by simpa using hi
   refine jK rfl rfl (nN (pV rfl ((vC _ _ (by omega)).trans ((vC _ _ (by omega)).trans q106)) w5) ⟨hS _ (hc5.alloc hc5.size _),?_⟩);exact fin _ g5 cap5 w5.heap.size _ (yA hown5 (bA _ _)) (heap_alloc_new _ _) (hc5.alloc hc5.size _)
  ·refine jK rfl rfl (nN (pV rfl ((vC _ _ (by omega)).trans q106) _) ⟨hS _ (tN W2 _ _),?_⟩);refine wpAnyH_all (rs:=[4]) (by kernel_rfl) (by simp) fun i hi=>?_;obtain rfl:i=4:=by simpa using hi
   refine jK rfl rfl ?_;refine rH _ rfl _ _ _ rfl W2.heap.size 202 ti _ 2 32 Tryz.underlying198 HI hz0 hz1 hz2 hz (by omega) W2.heap.size 0 0 [] ((vC _ _ (by omega)).trans (zE _ _ _ (by omega))) (aPc W2 _ _) _ m _ (sB (ys.take m)) ((vC _ _ (by omega)).trans ((vC _ _ (by omega)).trans q104)) hL1 (GQ (qO HRC hg2 (tN W2 _ _)) m) (yQ _) (by simp [maxLen];omega) (by omega) (tN W2 _ _).size ?_;intro g5 cap5 w5 hown5 hB5 hk5 _ _ _;have hc5:=(tN W2 _ _).trans hB5;have hl5:=(hk5 (W2.heap.size+1) (by show _<(World.alloc _ _).heap.size;simp) (by omega)).trans (aCy W2 _ _);simp only [Nat.zero_add,List.nil_append] at hown5 ⊢;refine ⟨hS _ hc5,?_⟩;have h:=fin (.slice (some ⟨W2.heap.size,0,none⟩) 0 0) g5 cap5 (W2.heap.size+1) w5 hown5 hl5 hc5;rw [←c57,show W2.heap.size+1=(W2.drew.alloc (.cells #[] 202)).heap.size by simp] at h;exact h
 ·refine jK rfl rfl (nN (pV rfl q106 _) ⟨hS _ (eW W2 _),?_⟩);refine wpAnyH_all (rs:=[0]) (by kernel_rfl) (by simp) fun i hi=>?_;obtain rfl:i=0:=by simpa using hi
  refine jK rfl rfl (nN (MI rfl _) ⟨hS _ (tN W2 _ _),?_⟩);refine wpAnyH_all (rs:=[4]) (by kernel_rfl) (by simp) fun i hi=>?_;obtain rfl:i=4:=by simpa using hi
  refine jK rfl rfl ?_;refine rH _ rfl _ _ _ rfl W2.heap.size 202 ti _ 2 32 Tryz.underlying198 HI hz0 hz1 hz2 hz (by omega) (W2.heap.size+1) 0 0 [] ((zE _ _ _ (by simp only [size_put];omega)).trans (by rw [show (W2.drew.alloc (.cells #[.string nm,.string va] 202)).heap.size=W2.heap.size+1 by simp])) (aPd W2 _ _) _ m _ (sB (ys.take m)) ((vC _ _ (by omega)).trans ((vC _ _ (by omega)).trans q104)) hL1 (GQ (qO HRC hg2 (tN W2 _ _)) m) (yQ _) (by simp [maxLen];omega) (by omega) (tN W2 _ _).size ?_;intro g5 cap5 w5 hown5 hB5 hk5 _ _ _;have hc5:=(tN W2 _ _).trans hB5;have hl5:=(hk5 W2.heap.size (by show _<(World.alloc _ _).heap.size;simp;omega) (by omega)).trans (aCz W2 _ _);simp only [Nat.zero_add,List.nil_append] at hown5 ⊢;refine ⟨hS _ hc5,?_⟩;have h:=fin (.slice (some ⟨(W2.drew.alloc (.cells #[.string nm,.string va] 202)).heap.size,0,none⟩) 0 0) g5 cap5 W2.heap.size w5 hown5 hl5 hc5;rw [←c57,←c17] at h;exact h
def RJ (ls:List zA):Prop:=∀i (h:i<ls.length),ls[i].name.size≤1000000000∧ls[i].value.size≤1000000000
theorem jZ {w:World}{B B':Nat}{e:TypeId}{size:Nat}{v:Value}{n:Nat}{xs:List Value} (h:w.ownsRow B e size v n xs) (hB:B'≤B):w.ownsRow B' e size v n xs:=by
 refine ⟨h.1,?_⟩;rcases h.2 with h2 | ⟨g,cap,cur,hv,hb,r⟩
 ·exact Or.inl h2
 ·exact Or.inr ⟨g,cap,cur,hv,Nat.le_trans hB hb,r⟩
theorem TL (ys:List zA) (m:Nat) (h:m<ys.length):(sB ys)[m * 2]?=some (.string ys[m].name):=by
 have e:sB ys=sB (ys.take m)++sB (ys.drop m):=by rw [←vD,List.take_append_drop]
 have hl:(sB (ys.take m)).length=m * 2:=by rw [yM,List.length_take];omega
 rw [e,List.getElem?_append_right (by omega),hl,Nat.sub_self,List.drop_eq_getElem_cons h];rfl
def DD (e:Ending) (w w':World) (l:List zA) (c i:Nat):Prop:=∃a' cap',e=.returned (.tuple #[.slice a' l.length cap',.int .i64 (c:Nat),.int .i64 (i:Nat)])∧pD w' w.heap.size a' l∧Below w.heap.size w w'
def aDe (e:Ending) (w w':World) (l:List zA) (c i:Nat):Prop:=∃a' cap',e=.returned (.tuple #[.slice a' l.length cap',.int .i64 (c:Nat),.int .i64 (i:Nat)])∧l.length≤cap'∧pD w' w.heap.size a' l∧Below w.heap.size w w'
theorem JK (a:Option Addr) (cap:Nat) (ls:List zA) (w:World) (hf:lD w a ls) (hB:RJ ls) (hlen:ls.length≤2000000) (hcap:ls.length≤cap):
 Calls Tryz.prog 216 #[.slice a ls.length cap] w fun e w'=>aDe e w w' (iB ls).1 (iB ls).2.1 (iB ls).2.2:=by
 have HF:Hid (lD w a ls):=hf;have HB:Hid (RJ ls):=hB;clear hf hB;by_cases h16:16<ls.length
 ·rw [DW h16];go_enter Tryz.func216,Tryz.ntmps216;go_wp2;refine bodyPost_ret (v:=.tuple #[.slice (some ⟨w.heap.size,0,none⟩) 0 0,.int .i64 40,.int .i64 0]) (by simp [results,Tryz.results216,go_sem]) rfl ⟨_,_,rfl,Nat.le_refl _,Or.inl rfl,bA _ _⟩
 have H16:Hid (¬16<ls.length):=h16;go_enter Tryz.func216,Tryz.ntmps216;go_wp2;go_loopw [6,7,8,25] (fun _ _ _ i wr=>∃k:Nat,k≤ls.length∧i=.int .i64 k∧Hid (jC ls 0=jC (ls.drop k) k)∧Below w.heap.size w wr) (fun _ _ _ i _=>ls.length - (intOf i).toNat)
 case atStart=>exact ⟨0,Nat.zero_le _,rfl,rfl,bA _ _⟩
 case round=>
  obtain ⟨k,hk,rfl,HK,hbel⟩:=hrel;by_cases hlt:k<ls.length
  ·obtain ⟨b,o,rfl,hb,c0,c1⟩:=(HF.out.later hbel).at hlt;obtain ⟨hs1,hs2⟩:=HB.out k hlt;have HNM:Hid _:=fun W=>QD ls[k].name W (by unfold maxLen;omega);have HVL:Hid _:=fun W=>BS ls[k].value W hs2;have HS:=cU ls k hlt;have hnb:¬b=wr.heap.size:=by omega
   by_cases hn:cZ ls[k].name=true
   ·have HNB:Hid _:=hn;have HLV:zR ls[k]=rJ ls[k].value:=by rw [zR,if_pos hn]
    by_cases h0:rJ ls[k].value=0
    ·have E:Hid (jC ls 0=jC (ls.drop (k+1)) (k+1)):=by show _=_;rw [HK.out,HS,if_pos (by rw [HLV];exact h0)]
     have HVL2:Hid (∀W,Calls Tryz.prog 137 #[.string ls[k].value] W fun e w'=>e=.returned (.int .i64 0)∧Below W.heap.size W w'):=by
      show ∀_,_;have:=HVL.out;rw [h0] at this;exact this
     clear HS HVL h0 hs1 hs2 hn HLV;generalize ls[k].name=nm at *;generalize ls[k].value=va at *;go_wp2_with fail;refine (HNM.out _).mono ?_;rintro e w1 ⟨rfl,hw⟩;rw [HNB.out];replace hw:=hw.symm;subst hw;go_wp2_with fail;refine (HVL2.out _).mono ?_;rintro e w2 ⟨rfl,hb2⟩;have HB2:Hid _:=rA (rA hbel (bA _ _)) hb2;clear hb2;go_wp2;exact ⟨⟨k+1,by omega,by go_num,E.out,HB2.out⟩,by simp [intOf];omega⟩
    ·have E:Hid (iB ls=([],rJ ls[k].value,k)):=by
      show _=_;rw [←HLV];exact gT H16.out (by rw [HK.out,HS,if_neg (by rw [HLV];exact h0)])
     have h0b:((rJ ls[k].value:Int) != 0)=true:=by simp;omega
     clear HS h0 hs1 hs2 hn HLV;generalize ls[k].name=nm at *;generalize ls[k].value=va at *;generalize rJ va=V at *;go_wp2_with fail;refine (HNM.out _).mono ?_;rintro e w1 ⟨rfl,hw⟩;rw [HNB.out];replace hw:=hw.symm;subst hw;go_wp2_with fail;refine (HVL.out _).mono ?_;rintro e w2 ⟨rfl,hb2⟩;have HB2:Hid _:=rA (rA hbel (bA _ _)) hb2;clear hb2;go_wp2;refine bodyPost_ret (v:=.tuple #[.slice (some ⟨w.heap.size,0,none⟩) 0 0,.int .i64 V,.int .i64 k]) (by simp [results,Tryz.results216,go_sem]) rfl ?_;rw [E.out];exact ⟨_,_,rfl,Nat.le_refl _,Or.inl rfl,HB2.out⟩
   ·have HNB:Hid (cZ ls[k].name=false):=by show _=_;simpa using hn
    have E:Hid (iB ls=([],41,k)):=by
     show _=_;have HLV:zR ls[k]=41:=by rw [zR,if_neg hn]
     rw [←HLV];exact gT H16.out (by rw [HK.out,HS,if_neg (by rw [HLV];omega)])
    clear HS hs1 hs2 hn;generalize ls[k].name=nm at *;generalize ls[k].value=va at *;go_wp2_with fail;refine (HNM.out _).mono ?_;rintro e w1 ⟨rfl,hw⟩;rw [HNB.out];replace hw:=hw.symm;subst hw;go_wp2;refine bodyPost_ret (v:=.tuple #[.slice (some ⟨w.heap.size,0,none⟩) 0 0,.int .i64 41,.int .i64 k]) (by simp [results,Tryz.results216,go_sem]) rfl ?_;rw [E.out];exact ⟨_,_,rfl,Nat.le_refl _,Or.inl rfl,rA hbel (bA _ _)⟩
  ·have HN:Hid (jC ls 0=none):=by
    show _=_;rw [HK.out,List.drop_of_length_le (by omega)];rfl
   clear HK HB;go_wp2;clear hlt hk;go_loopw [9,10,12,47,54,55,56] (fun _ _ _ i _ _ _ wr=>∃k:Nat,k≤ls.length∧i=.int .i64 k∧Hid (uD [] ls 0=uD (ls.take k) (ls.drop k) k)∧Below w.heap.size w wr) (fun _ _ _ i _ _ _ _=>ls.length - (intOf i).toNat)
   case atStart=>exact ⟨0,Nat.zero_le _,rfl,rfl,hbel⟩
   case round=>
    clear hbel;obtain ⟨k,hk,rfl,HK,hbel⟩:=hrel;by_cases hlt:k<ls.length
    ·obtain ⟨b,o,rfl,hb,c0,c1⟩:=(HF.out.later hbel).at hlt;have HS:=qW ls k hlt;have hnb:¬b=wr.heap.size:=by omega
     have hk0:(0:Int)≤(k:Int):=by omega
     have hkc:(k:Int)≤(cap:Int):=by omega
     have HYES:Hid _:=fun h=>wZ H16.out HN.out (by rw [HK.out,HS,if_pos h]);have HNO:Hid (((ls.take k).any fun x=>iO x ls[k])=false→uD [] ls 0=uD (ls.take (k+1)) (ls.drop (k+1)) (k+1)):=fun h=>by rw [HK.out,HS,if_neg (by rw [h];simp)]
     have HSN:Hid (∀x,iO x ls[k]=(x.name.toList==ls[k].name.toList)):=fun x=>rfl;clear HS;generalize hlk:ls[k]=lk at *;generalize lk.name=nm at *;generalize lk.value=va at *;have HBX:Hid (lA (wr.alloc (.cells #[.string nm,.string va] 202)) wr.heap.size #[.string nm,.string va] 202∧Below w.heap.size w (wr.alloc (.cells #[.string nm,.string va] 202))):=⟨heap_alloc_new _ _,rA hbel (bA _ _)⟩
     go_wp2;generalize wr.alloc (.cells #[.string nm,.string va] 202)=W at *;clear hnb hb c0 c1 hbel;generalize wr.heap.size=BX at *;clear wr;go_loopw [12,56] (fun _ i wr=>∃m:Nat,m≤k∧i=.int .i64 m∧Hid (((ls.take m).any fun x=>iO x lk)=false)∧Below W.heap.size W wr) (fun _ i _=>k - (intOf i).toNat)
     case atStart=>exact ⟨0,Nat.zero_le _,rfl,by show _=_;simp,Below.refl _ _⟩
     case round=>
      obtain ⟨m,hm,rfl,HM,hbel2⟩:=hrel;have hX:=HBX.out.1.later hbel2;have x0:=hX.cell 0;simp only [List.getElem?_toArray,List.getElem?_cons_zero] at x0;have hXl:=aA hX;have hnX:¬BX=wr.heap.size:=by omega
      clear hX;by_cases hmk:m<k
      ·obtain ⟨b',o',e',hb',d0,d1⟩:=(HF.out.later (rA HBX.out.2 hbel2)).at (i:=m) (by omega)
       simp only [Option.some.injEq,Addr.mk.injEq,and_true] at e';obtain ⟨rfl,rfl⟩:=e';have hnb2:¬b=wr.heap.size:=by omega
       have hT1:(ls.take k).any (fun x=>iO x lk)=true∨iO ls[m] lk=false:=by
        cases hq:iO ls[m] lk with
        | false=>exact Or.inr rfl
        | true=>
          left;rw [List.any_eq_true];refine ⟨ls[m],?_,hq⟩;rw [List.mem_take_iff_getElem];exact ⟨m,by omega,rfl⟩
       have HT1:Hid _:=hT1;have HQ:Hid _:=HSN.out ls[m];have HT2:Hid (iO ls[m] lk=false→((ls.take (m+1)).any fun x=>iO x lk)=false):=fun h=>by rw [List.take_succ_eq_append_getElem (by omega),List.any_append,HM.out];simp [h]
       clear hT1;generalize ls[m]=lm at *;generalize lm.name=nm2 at *;generalize lm.value=va2 at *;by_cases hq:(nm2.toList==nm.toList)=true
       ·have E:Hid (iB ls=([],45,k)):=by
         rcases HT1.out with h | h
         ·exact HYES.out h
         ·rw [HQ.out,hq] at h;exact absurd h (by simp)
        go_wp2;refine bodyPost_ret (v:=.tuple #[.slice (some ⟨w.heap.size,0,none⟩) 0 0,.int .i64 45,.int .i64 k]) (by simp [results,Tryz.results216,go_sem]) rfl ?_;rw [E.out];exact ⟨_,_,rfl,Nat.le_refl _,Or.inl rfl,rA (rA HBX.out.2 hbel2) (bA _ _)⟩
       ·have hq':(nm2.toList==nm.toList)=false:=by simpa using hq
        have E:Hid _:=HT2.out (by rw [HQ.out];exact hq');clear hq;go_wp2;exact ⟨⟨m+1,by omega,by go_num,E.out,rA hbel2 (bA _ _)⟩,by simp [intOf];omega⟩
      ·have hmk':m=k:=by omega
       have E:Hid _:=HNO.out (by rw [←hmk'];exact HM.out);subst hmk';go_wp2;exact ⟨⟨m+1,by omega,by go_num,E.out,rA HBX.out.2 hbel2⟩,by simp [intOf];omega⟩
    ·have HN2:Hid (uD [] ls 0=none):=by
      show _=_;rw [HK.out,List.drop_of_length_le (by omega)];rfl
     obtain ⟨ti,hti,hz0,hz1,hz2⟩:=zW;have HI:Hid _:=hti;clear HK hti;go_wp2;clear hlt hk;go_loopw [13,14,16,17,72] (fun out me _ _ i wr=>∃(k:Nat) (ys:List zA) (g0 cv:Nat) (bm:Bool),k≤ls.length∧ys.length≤k∧Hid (jF [] ls=jF ys (ls.drop k)∧bm=dR (ls.take k))∧i=.int .i64 k∧out=.slice (some ⟨g0,0,none⟩) ys.length cv∧me=.bool bm∧Hid (wr.ownsRow w.heap.size 202 2 (.slice (some ⟨g0,0,none⟩) ys.length cv) ys.length (sB ys))∧Below w.heap.size w wr) (fun _ _ _ _ i _=>ls.length - (intOf i).toNat)
     case atStart=>
      exact ⟨0,[],_,_,false,Nat.zero_le _,Nat.zero_le _,⟨rfl,by simp [dR]⟩,rfl,rfl,rfl,jZ (World.ownsRow_made wr #[] 0 (Nat.le_refl _) (by simp [maxLen]) (by simp)) hbel.size,rA hbel (bA _ _)⟩
     case round=>
      clear hbel;obtain ⟨k,ys,g0,cv,bm,hk,hy,HK,rfl,rfl,rfl,hrow,hbel⟩:=hrel;have hsz:=hbel.size;by_cases hlt:k<ls.length
      ·obtain ⟨b,o,rfl,hb,c0,c1⟩:=(HF.out.later hbel).at hlt;have HS:=UK ys ls k hlt;have HM:=aFw ls k hlt;have hE:=UR ls[k];have hMN:oK ls[k]=(ls[k].name.toList==[95,95,110,97,109,101,95,95]):=by rw [oK,show FZ.toList=[95,95,110,97,109,101,95,95] by rw [FZ,ByteArray.toList_eq]]
       have hnb:¬b=wr.heap.size:=by omega
       by_cases he:sO ls[k]=true
       ·have E:Hid (jF [] ls=jF ys (ls.drop (k+1))∧bm=dR (ls.take (k+1))):=by
         refine ⟨?_,?_⟩
         ·rw [HK.out.1,HS,if_pos he]
         ·rw [HM,he,HK.out.2];simp
        have heb:ls[k].value.toList.isEmpty=true:=by rw [←hE];exact he
        clear HS HM he hE hMN;generalize ls[k].name=nm at *;generalize ls[k].value=va at *;go_wp2;exact ⟨⟨k+1,ys,g0,cv,bm,by omega,by omega,E.out,by go_num,rfl,rfl,yA hrow.out (bA _ _),rA hbel (bA _ _)⟩,by simp [intOf];omega⟩
       ·have E:Hid (jF [] ls=jF (oG ls[k] ys) (ls.drop (k+1))∧(bm||oK ls[k])=dR (ls.take (k+1))):=by
         refine ⟨?_,?_⟩
         ·rw [HK.out.1,HS,if_neg he]
         ·have he':sO ls[k]=false:=by simpa using he
          rw [HM,he',HK.out.2];simp
        have heb:ls[k].value.toList.isEmpty=false:=by rw [←hE];simpa using he
        have HMN:Hid _:=hMN;have HLK:Hid (∀x,zJ x ls[k]=Op.bytesLess x.name.toList ls[k].name.toList):=fun x=>rfl;have HFL:Hid (sB [ls[k]]=[.string ls[k].name,.string ls[k].value]):=rfl;clear HS HM he hE hMN;generalize ls[k]=lk at *;generalize lk.name=nm at *;generalize lk.value=va at *;have HBX:Hid (lA (wr.alloc (.cells #[.string nm,.string va] 202)) wr.heap.size #[.string nm,.string va] 202):=heap_alloc_new _ _;have HROW:Hid ((wr.alloc (.cells #[.string nm,.string va] 202)).ownsRow w.heap.size 202 2 (.slice (some ⟨g0,0,none⟩) ys.length cv) ys.length (sB ys)):=yA hrow.out (bA _ _);have HBW:Hid (Below w.heap.size w (wr.alloc (.cells #[.string nm,.string va] 202))∧w.heap.size≤wr.heap.size∧g0<wr.heap.size):=⟨rA hbel (bA _ _),hsz,by
         rcases hrow.out.2 with ⟨he,_⟩ | ⟨g',cap',cur,he,_,hb,_⟩
         ·simp at he
         ·simp only [Value.slice.injEq,Option.some.injEq,Addr.mk.injEq,and_true] at he;rw [he.1];exact aA hb⟩
        cases bm
        all_goals
         go_wp2;generalize wr.alloc (.cells #[.string nm,.string va] 202)=W at *;clear hrow hbel hsz hnb hb c0 c1;generalize wr.heap.size=BX at *;clear wr;go_loopw [17] (fun at_ wr=>∃m:Nat,m≤ys.length∧at_=.int .i64 m∧Hid (fR lk ys=m+fR lk (ys.drop m))∧Below W.heap.size W wr) (fun at_ _=>ys.length - (intOf at_).toNat)
         case atStart=>exact ⟨0,Nat.zero_le _,rfl,by show _=_;simp,Below.refl _ _⟩
         case round=>
          obtain ⟨m,hm,rfl,HM,hbel⟩:=hrel;have hX:=HBX.out.later hbel;have x0:=hX.cell 0;have x1:=hX.cell 1;simp only [List.getElem?_toArray,List.getElem?_cons_zero,List.getElem?_cons_succ] at x0 x1;have y0:=pA.cells x0;have y1:=pA.cells x1;have hne:=pA.there wr;have HX:Hid (lA wr BX #[.string nm,.string va] 202):=hX;clear hX x0 x1;by_cases hml:m<ys.length
          ·have hrc1:=eL (yA HROW.out hbel);have z0:wr.cell? ⟨g0,m * 2,none⟩=some (.string ys[m].name):=hrc1.2.2.2 (m * 2) _ (by
            have h:=TL ys m hml;exact h)
           have y2:=pA.cells z0;have hm1:(m:Int)<(ys.length:Int):=by omega
           have hm00:(0:Int)≤(m:Int):=by omega
           have HPS:=aGp lk ys m hml;have HLS:Hid _:=HLK.out ys[m];clear z0 hrc1;generalize ys[m].name=nm2 at *;by_cases hle:zJ ys[m] lk=true
           ·have hbl:Op.bytesLess nm2.toList nm.toList=true:=by rw [←HLS.out];exact hle
            have E2:Hid (fR lk ys=m+1+fR lk (ys.drop (m+1))):=by show _=_;rw [HM.out,HPS,if_pos hle];omega
            clear HPS hle;go_wp2_with fail;refine fA (by kernel_rfl) (by kernel_rfl) ?_;repeat (go_big_quiet_step (fail))
            refine wpQuiet_nil ?_;rintro _ ⟨x,rfl⟩;have HXB:Hid _:=rA hbel x.h;clear y0 y1 y2 hne;generalize x.w'=W2 at *;clear x;go_wp2;exact ⟨⟨m+1,by omega,by go_num,E2.out,HXB.out⟩,by simp [intOf];omega⟩
           have hbl:Op.bytesLess nm2.toList nm.toList=false:=by rw [←HLS.out];simpa using hle
           have E2:Hid (fR lk ys=m):=by show _=_;rw [HM.out,HPS,if_neg hle];rfl
           clear HPS hle;go_wp2_with fail;refine fA (by kernel_rfl) (by kernel_rfl) ?_;repeat (go_big_quiet_step (fail))
           refine wpQuiet_nil ?_;rintro _ ⟨x,rfl⟩;clear y2;have hx:=x.h;clear y0 y1 hne;generalize x.w'=W2 at *;clear x;have HB2:Hid _:=rA hbel hx;have HBW2:Hid _:=rA HBW.out.1 HB2.out;have hrc:=eL (yA HROW.out HB2.out);have hcv:=hrc.1;have hg2:=hrc.2.1;have HRC:Hid _:=hrc.2.2.2;have hX2:=HX.out.later hx;have x0:=hX2.cell 0;have x1:=hX2.cell 1;simp only [List.getElem?_toArray,List.getElem?_cons_zero,List.getElem?_cons_succ] at x0 x1;have hBX2:=aA hX2;have hm0:(0:Int)≤(m:Int):=by omega
           have hmc:(m:Int)≤(cv:Int):=by omega
           clear hx hbel HX HROW HBX hX2 hrc HM;go_wp2_with fail;refine FC _ ys nm va g0 cv BX m ti W2 _ (by simp) rfl rfl rfl HI.out hz0 hz1 hz2 x0 x1 hBX2 hm hcv (by omega) hg2 HRC.out ?_;intro v102 v103 v104 v106 v109 v110 v111 v101 v105 v107 v108 g7 cap7 w7 hown7 hb7;have HO7:Hid (w7.ownsRow w.heap.size 202 2 (.slice (some ⟨g7,0,none⟩) (oG lk ys).length cap7) (oG lk ys).length (sB (oG lk ys))):=by
            have hl:(oG lk ys).length=m+1+(ys.length - m):=by rw [lI];omega
            have hfl:sB (oG lk ys)=sB (ys.take m)++[.string nm,.string va]++sB (ys.drop m):=by
             rw [oG,E2.out,vD,show lk :: ys.drop m=[lk]++ys.drop m from rfl,vD,HFL.out,List.append_assoc]
            show World.ownsRow _ _ _ _ _ _ _;rw [hl,hfl];exact jZ hown7 HBW2.out.size
           have HB7:Hid _:=rA HBW2.out hb7;have hll:(m+1+(ys.length - m):Nat)=(oG lk ys).length:=by rw [lI];omega
           rw [hll];have hle7:(oG lk ys).length≤k+1:=by rw [lI];omega
           clear hown7 hb7 hll;generalize oG lk ys=ys7 at *;go_wp2;refine ⟨⟨k+1,ys7,g7,cap7,_,by omega,hle7,⟨E.out.1,?_⟩,by go_num,rfl,rfl,HO7.out,HB7.out⟩,by simp [intOf];omega⟩;have h:=E.out.2;rw [HMN.out] at h;simpa using h
          ·have E2:Hid (fR lk ys=m):=by show _=_;rw [HM.out,List.drop_of_length_le (by omega)];simp [fR]
           have hml':¬((m:Int)<(ys.length:Int)):=by omega
           go_wp2_with fail;refine fA (by kernel_rfl) (by kernel_rfl) ?_;repeat (go_big_quiet_step (fail))
           refine wpQuiet_nil ?_;rintro _ ⟨x,rfl⟩;have hx:=x.h;clear y0 y1 hne;generalize x.w'=W2 at *;clear x;have HB2:Hid _:=rA hbel hx;have HBW2:Hid _:=rA HBW.out.1 HB2.out;have hrc:=eL (yA HROW.out HB2.out);have hcv:=hrc.1;have hg2:=hrc.2.1;have HRC:Hid _:=hrc.2.2.2;have hX2:=HX.out.later hx;have x0:=hX2.cell 0;have x1:=hX2.cell 1;simp only [List.getElem?_toArray,List.getElem?_cons_zero,List.getElem?_cons_succ] at x0 x1;have hBX2:=aA hX2;have hm0:(0:Int)≤(m:Int):=by omega
           have hmc:(m:Int)≤(cv:Int):=by omega
           clear hx hbel HX HROW HBX hX2 hrc HM;go_wp2_with fail;refine FC _ ys nm va g0 cv BX m ti W2 _ (by simp) rfl rfl rfl HI.out hz0 hz1 hz2 x0 x1 hBX2 hm hcv (by omega) hg2 HRC.out ?_;intro v102 v103 v104 v106 v109 v110 v111 v101 v105 v107 v108 g7 cap7 w7 hown7 hb7;have HO7:Hid (w7.ownsRow w.heap.size 202 2 (.slice (some ⟨g7,0,none⟩) (oG lk ys).length cap7) (oG lk ys).length (sB (oG lk ys))):=by
            have hl:(oG lk ys).length=m+1+(ys.length - m):=by rw [lI];omega
            have hfl:sB (oG lk ys)=sB (ys.take m)++[.string nm,.string va]++sB (ys.drop m):=by
             rw [oG,E2.out,vD,show lk :: ys.drop m=[lk]++ys.drop m from rfl,vD,HFL.out,List.append_assoc]
            show World.ownsRow _ _ _ _ _ _ _;rw [hl,hfl];exact jZ hown7 HBW2.out.size
           have HB7:Hid _:=rA HBW2.out hb7;have hll:(m+1+(ys.length - m):Nat)=(oG lk ys).length:=by rw [lI];omega
           rw [hll];have hle7:(oG lk ys).length≤k+1:=by rw [lI];omega
           clear hown7 hb7 hll;generalize oG lk ys=ys7 at *;go_wp2;refine ⟨⟨k+1,ys7,g7,cap7,_,by omega,hle7,⟨E.out.1,?_⟩,by go_num,rfl,rfl,HO7.out,HB7.out⟩,by simp [intOf];omega⟩;have h:=E.out.2;rw [HMN.out] at h;simpa using h
      ·have HE:Hid (jF [] ls=ys∧bm=dR ls):=by
        have h:=HK.out;rw [List.drop_of_length_le (by omega),List.take_of_length_le (by omega)] at h;exact h
       have HR:Hid (pD wr w.heap.size (some ⟨g0,0,none⟩) ys):=zL hrow.out;have hcvr:=(eL hrow.out).1;clear hrow HK;cases bm with
       | false=>
         have E:Hid _:=JZ H16.out HN.out HN2.out HE.out.2.symm;go_wp2;refine bodyPost_ret (v:=.tuple #[.slice (some ⟨w.heap.size,0,none⟩) 0 0,.int .i64 46,.int .i64 0]) (by simp [results,Tryz.results216,go_sem]) rfl ?_;rw [E.out];exact ⟨_,_,rfl,Nat.le_refl _,Or.inl rfl,hbel⟩
       | true=>
         have E:Hid (iB ls=(ys,0,0)):=by show _=_;rw [SD H16.out HN.out HN2.out HE.out.2.symm,HE.out.1]
         go_wp2;refine bodyPost_ret (v:=.tuple #[.slice (some ⟨g0,0,none⟩) ys.length cv,.int .i64 0,.int .i64 0]) (by simp [results,Tryz.results216,go_sem]) rfl ?_;rw [E.out];exact ⟨_,_,rfl,hcvr,HR.out,hbel⟩
theorem JJ (a:Option Addr) (cap:Nat) (ls:List zA) (w:World) (hf:lD w a ls) (hB:RJ ls) (hlen:ls.length≤2000000) (hcap:ls.length≤cap):
 Calls Tryz.prog 216 #[.slice a ls.length cap] w fun e w'=>DD e w w' (iB ls).1 (iB ls).2.1 (iB ls).2.2:=by
 refine (JK a cap ls w hf hB hlen hcap).mono ?_;rintro e w' ⟨a',cap',h1,_,h2,h3⟩;exact ⟨a',cap',h1,h2,h3⟩
end Go.Proofs.YtcneojllbkacoaaGreatDoor
