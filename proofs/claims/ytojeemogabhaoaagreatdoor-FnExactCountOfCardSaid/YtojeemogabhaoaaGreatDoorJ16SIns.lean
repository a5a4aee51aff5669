import Derived.Test.YtojeemogabhaoaaGreatDoorProg
import Derived.Test.YtojeemogabhaoaaGreatDoorJ11IRd
import Derived.OrdersHeld
import Derived.Deep.RegionHeld3
namespace Go.Proofs.YtojeemogabhaoaaGreatDoor
open Go.RowKit
def insOps : Array Oper := #[{ dst := some 101, op := Op.buildSlice 91 0 #[], type := 91, pos := "l3_labels.go:111", after := #[], guard := none },
  { dst := some 102, op := Op.move (Operand.tmp 13), type := 91, pos := "l3_labels.go:111", after := #[], guard := none },
  { dst := some 103, op := Op.move (Operand.tmp 17), type := 3, pos := "l3_labels.go:111", after := #[], guard := none },
  { dst := some 104, op := Op.slice 91 (Operand.tmp 102) none (some (Operand.tmp 103)) none, type := 91, pos := "l3_labels.go:111", after := #[{ on := 1, ground := Ground.data }, { on := 2, ground := Ground.data }], guard := none },
  { dst := some 105, op := Op.call { callee := Callee.builtin Builtin.append, args := #[Operand.tmp 101, Operand.tmp 104], argTypes := #[91, 91] }, type := 91, pos := "l3_labels.go:111", after := #[{ on := 0, ground := Ground.data }, { on := 3, ground := Ground.data }], guard := none },
  { dst := some 106, op := Op.load 135 (Operand.tmp 16), type := 135, pos := "l3_labels.go:111", after := #[], guard := none },
  { dst := some 107, op := Op.buildSlice 91 1 #[(0, Operand.tmp 106)], type := 91, pos := "l3_labels.go:111", after := #[{ on := 5, ground := Ground.data }], guard := none },
  { dst := some 108, op := Op.call { callee := Callee.builtin Builtin.append, args := #[Operand.tmp 105, Operand.tmp 107], argTypes := #[91, 91] }, type := 91, pos := "l3_labels.go:111", after := #[{ on := 4, ground := Ground.data }, { on := 6, ground := Ground.data }, { on := 4, ground := Ground.chain }], guard := none },
  { dst := some 109, op := Op.move (Operand.tmp 13), type := 91, pos := "l3_labels.go:111", after := #[], guard := none },
  { dst := some 110, op := Op.move (Operand.tmp 17), type := 3, pos := "l3_labels.go:111", after := #[], guard := none },
  { dst := some 111, op := Op.slice 91 (Operand.tmp 109) (some (Operand.tmp 110)) none none, type := 91, pos := "l3_labels.go:111", after := #[{ on := 8, ground := Ground.data }, { on := 9, ground := Ground.data }], guard := none },
  { dst := some 112, op := Op.call { callee := Callee.builtin Builtin.append, args := #[Operand.tmp 108, Operand.tmp 111], argTypes := #[91, 91] }, type := 91, pos := "l3_labels.go:111", after := #[{ on := 7, ground := Ground.data }, { on := 10, ground := Ground.data }, { on := 7, ground := Ground.chain }], guard := none },
  { dst := some 13, op := Op.assign (Operand.tmp 112), type := 91, pos := "l3_labels.go:111", after := #[{ on := 11, ground := Ground.data }, { on := 11, ground := Ground.chain }, { on := 0, ground := Ground.phase }, { on := 1, ground := Ground.phase }, { on := 2, ground := Ground.phase }, { on := 3, ground := Ground.phase }, { on := 4, ground := Ground.phase }, { on := 5, ground := Ground.phase }, { on := 6, ground := Ground.phase }, { on := 7, ground := Ground.phase }, { on := 8, ground := Ground.phase }, { on := 9, ground := Ground.phase }, { on := 10, ground := Ground.phase }, { on := 11, ground := Ground.phase }], guard := none }]
section
variable {P : Program} {ops : Array Oper} {Q : Exit → Act → World → Prop} {S : World → Prop} {o : Oper} {a : Act} {w w' : World} {v : Value} {K : Act → World → Prop}
theorem wpOp_of {i : Nat} (hi : ops[i]? = some o) (hg : o.guard = none) (h : o.wp P a w K Q) : wpOp P ops Q i K a w := by
  unfold wpOp
  rw [hi]
  simp only
  rw [if_pos (by simp [Region.wanted, hg])]
  exact Or.inl h
theorem wp_of_run (hr : (execOp a.eval o).run P w = .ok (.value v) w') (h : K (a.put o.dst v) w') : o.wp P a w K Q := by
  unfold Oper.wp
  rw [hr]
  exact h
theorem yields_of (hg : o.guard = none) (h : ∀ w, S w → (execOp a.eval o).run P w = .ok (.value v) w) : YieldsIf P ops S o v a :=
  Or.inl ⟨by simp [Region.wanted, hg], h⟩
end
theorem eval_same (a : Act) (d : Nat) (v : Value) (h : d < a.tmps.size) : (a.put (some d) v).eval (.tmp d) = v := by
  simp [Act.put, Act.eval, Array.getD, h]
theorem eval_ne (a : Act) {d k : Nat} (v : Value) (h : k ≠ d) : (a.put (some d) v).eval (.tmp k) = a.eval (.tmp k) :=
  Act.eval_put (fun d' e => by
    simp only [Option.some.injEq] at e
    subst e
    intro h2
    simp only [Operand.tmp.injEq] at h2
    exact h h2)
theorem size_put (a : Act) (d : Option Tmp) (v : Value) : (a.put d v).tmps.size = a.tmps.size := by cases d <;> simp [Act.put]
theorem run_move {P : Program} {o : Oper} {a : Act} {x : Operand} {v : Value} (ho : o.op = .move x) (hx : a.eval x = v) (w : World) : (execOp a.eval o).run P w = .ok (.value v) w := by
  simp [execOp, ho, hx]
theorem run_assign {P : Program} {o : Oper} {a : Act} {x : Operand} {v : Value} (ho : o.op = .assign x) (hx : a.eval x = v) (w : World) : (execOp a.eval o).run P w = .ok (.value v) w := by
  simp [execOp, ho, hx]
set_option maxRecDepth 100000 in
theorem run_head {o : Oper} {a : Act} {x y : Operand} {g n cv m : Nat} (ho : o.op = .slice 91 x none (some y) none) (hx : a.eval x = .slice (some ⟨g, 0, none⟩) n cv) (hy : a.eval y = .int .i64 (m : Nat)) (hm : m ≤ cv) (w : World) :
    (execOp a.eval o).run Tryz.prog w = .ok (.value (.slice (some ⟨g, 0, none⟩) m cv)) w := by
  have h0 : (0 : Int) ≤ (m : Int) := by omega
  have h1 : (m : Int) ≤ (cv : Int) := by omega
  simp only [execOp, ho, hx, hy, Option.map_some, Option.map_none]
  simp [go_sem, h0, h1]
set_option maxRecDepth 100000 in
theorem run_tail {o : Oper} {a : Act} {x y : Operand} {g n cv m : Nat} (ho : o.op = .slice 91 x (some y) none none) (hx : a.eval x = .slice (some ⟨g, 0, none⟩) n cv) (hy : a.eval y = .int .i64 (m : Nat)) (hm : m ≤ n) (w : World) :
    (execOp a.eval o).run Tryz.prog w = .ok (.value (.slice (if cv = m then some ⟨g, 0, none⟩ else some ⟨g, m * 2, none⟩) (n - m) (cv - m))) w := by
  have h0 : (0 : Int) ≤ (m : Int) := by omega
  have h1 : (m : Int) ≤ (n : Int) := by omega
  simp only [execOp, ho, hx, hy, Option.map_some, Option.map_none]
  simp [go_sem, h0, h1]
theorem run_empty {o : Oper} {a : Act} (ho : o.op = .buildSlice 91 0 #[]) (w : World) :
    (execOp a.eval o).run Tryz.prog w = .ok (.value (.slice (some ⟨w.heap.size, 0, none⟩) 0 0)) (w.alloc (.cells #[] 135)) := by
  simp [execOp, ho, go_sem]
theorem run_single {o : Oper} {a : Act} {x : Operand} {nm va : ByteArray} (ho : o.op = .buildSlice 91 1 #[(0, x)]) (hx : a.eval x = .agg #[.string nm, .string va]) (w : World) :
    (execOp a.eval o).run Tryz.prog w = .ok (.value (.slice (some ⟨w.heap.size, 0, none⟩) 1 1)) (w.alloc (.cells #[.string nm, .string va] 135)) := by
  simp only [execOp, ho, List.map_toArray, List.map_cons, List.map_nil, hx]
  simp [go_sem]
theorem run_loadL {o : Oper} {a : Act} {x : Operand} {B : Nat} {nm va : ByteArray} (ho : o.op = .load 135 x) (hx : a.eval x = .pointer (some ⟨B, 0, none⟩)) (w : World) (h0 : w.cell? ⟨B, 0, none⟩ = some (.string nm)) (h1 : w.cell? ⟨B, 1, none⟩ = some (.string va)) :
    (execOp a.eval o).run Tryz.prog w = .ok (.value (.agg #[.string nm, .string va])) w := by
  simp only [execOp, ho, hx]
  simp [go_sem, h0, h1]
theorem wp_append_any {P : Program} (w : World) {o : Oper} {a : Act} {K : Act → World → Prop} {Q : Exit → Act → World → Prop} (hgd : o.guard = none) (s x : Operand) (t : TypeId)
    (ho : o.op = .call { callee := .builtin .append, args := #[s, x], argTypes := #[t, t] })
    (base : Nat) (e : TypeId) (i : TypeInfo) (z : Value) (size bytes : Nat) (ht : P.underlying t = some (.slice e)) (hi : P.info? e = some i) (hz : i.zero = some z)
    (hsize : i.size = size) (hby : i.bytes = bytes) (hzs : z.cells.size = size) (hsz : 0 < size)
    (g0 n c0 : Nat) (xs : List Value) (hs : a.eval s = .slice (some ⟨g0, 0, none⟩) n c0) (hown : w.ownsRow base e size (.slice (some ⟨g0, 0, none⟩) n c0) n xs)
    (ad : Option Addr) (m c : Nat) (news : List Value) (hx : a.eval x = .slice ad m c) (hl : news.length = m * size) (hsrc : SrcAt w ad m news) (h1 : ∀ u ∈ news, u.oneCell' = true)
    (h63 : n + m ≤ maxLen) (hbytes : (n + m) * bytes ≤ 140737488355328) (hbase : base ≤ w.heap.size)
    (h : ∀ g cap w', w'.ownsRow base e size (.slice (some ⟨g, 0, none⟩) (n + m) cap) (n + m) (xs ++ news) → Below base w w' → (∀ k, k < w.heap.size → k ≠ g0 → w'.heap[k]? = w.heap[k]?) → base ≤ g → (g = g0 ∨ g = w.heap.size) → g < w'.heap.size → K (a.put o.dst (.slice (some ⟨g, 0, none⟩) (n + m) cap)) w') :
    Oper.wp P o a w K Q := by
  have hw : Region.wanted o (yielded #[] a.tmps) = true := by simp [Region.wanted, hgd]
  have := step_append_any (P := P) w (ops := #[]) (E := False) (Q := Q) hgd s x t ho base e i z size bytes ht hi hz hsize hby hzs hsz g0 n c0 xs hs hown ad m c news hx hl hsrc h1 h63 hbytes hbase h
  rwa [if_pos hw] at this
set_option maxRecDepth 100000 in
set_option maxHeartbeats 2000000 in
theorem ins_region (a : Act) (ys : List LabD) (nm va : ByteArray) (g0 cv BX m : Nat) (ti : TypeInfo) (W2 : World) (Q : Exit → Act → World → Prop) (hsz : 118 ≤ a.tmps.size)
    (h13 : a.eval (.tmp 13) = .slice (some ⟨g0, 0, none⟩) ys.length cv) (h16 : a.eval (.tmp 16) = .pointer (some ⟨BX, 0, none⟩)) (h17 : a.eval (.tmp 17) = .int .i64 (m : Nat))
    (HI : Tryz.prog.info? 135 = some ti) (hz0 : ti.zero = some (.agg #[.string ByteArray.empty, .string ByteArray.empty])) (hz1 : ti.size = 2) (hz2 : ti.bytes = 32)
    (x0 : W2.cell? ⟨BX, 0, none⟩ = some (.string nm)) (x1 : W2.cell? ⟨BX, 1, none⟩ = some (.string va)) (hBX2 : BX < W2.heap.size) (hm : m ≤ ys.length) (hcv : ys.length ≤ cv) (hlen : ys.length ≤ 2000000) (hg2 : g0 < W2.heap.size)
    (HRC : ∀ j u, (flatL ys)[j]? = some u → W2.cell? ⟨g0, j, none⟩ = some u)
    (HQ : ∀ (v102 v103 v104 v106 v109 v110 v111 v101 v105 v107 v108 : Value) (g7 cap7 : Nat) (w7 : World), w7.ownsRow W2.heap.size 135 2 (.slice (some ⟨g7, 0, none⟩) (m + 1 + (ys.length - m)) cap7) (m + 1 + (ys.length - m)) (flatL (ys.take m) ++ [.string nm, .string va] ++ flatL (ys.drop m)) → Below W2.heap.size W2 w7 →
      Q .normal (((((((((((((a.put (some 102) v102).put (some 103) v103).put (some 104) v104).put (some 106) v106).put (some 109) v109).put (some 110) v110).put (some 111) v111).put (some 101) v101).put (some 105) v105).put (some 107) v107).put (some 108) v108).put (some 112) (.slice (some ⟨g7, 0, none⟩) (m + 1 + (ys.length - m)) cap7)).put (some 13) (.slice (some ⟨g7, 0, none⟩) (m + 1 + (ys.length - m)) cap7)) w7) :
    Code.wp Tryz.prog (Code.region 33 insOps true) Q a W2 := by
  have hmc : m ≤ cv := by omega
  have hL1 : (flatL (ys.take m)).length = m * 2 := by rw [flatL_length, List.length_take]; omega
  have hL2 : (flatL (ys.drop m)).length = (ys.length - m) * 2 := by rw [flatL_length, List.length_drop]
  let S : World → Prop := fun w => w.cell? ⟨BX, 0, none⟩ = some (.string nm) ∧ w.cell? ⟨BX, 1, none⟩ = some (.string va)
  have hS : ∀ w, Below W2.heap.size W2 w → S w := fun w hb => ⟨(hb.cell hBX2).trans x0, (hb.cell hBX2).trans x1⟩
  have hz : (Value.agg #[.string ByteArray.empty, .string ByteArray.empty]).cells.size = 2 := rfl
  have tail : ∀ (b : Act) (w : World) (g5 cap5 BL : Nat), 118 ≤ b.tmps.size → b.eval (.tmp 105) = .slice (some ⟨g5, 0, none⟩) m cap5 → b.eval (.tmp 107) = .slice (some ⟨BL, 0, none⟩) 1 1 →
      b.eval (.tmp 111) = .slice (if cv = m then some ⟨g0, 0, none⟩ else some ⟨g0, m * 2, none⟩) (ys.length - m) (cv - m) →
      w.ownsRow W2.heap.size 135 2 (.slice (some ⟨g5, 0, none⟩) m cap5) m (flatL (ys.take m)) → w.heap[BL]? = some (.cells #[.string nm, .string va] 135 (0, 0)) → Below W2.heap.size W2 w →
      (∀ (v108 : Value) (g7 cap7 : Nat) (w7 : World), w7.ownsRow W2.heap.size 135 2 (.slice (some ⟨g7, 0, none⟩) (m + 1 + (ys.length - m)) cap7) (m + 1 + (ys.length - m)) (flatL (ys.take m) ++ [.string nm, .string va] ++ flatL (ys.drop m)) → Below W2.heap.size W2 w7 →
        Q .normal (((b.put (some 108) v108).put (some 112) (.slice (some ⟨g7, 0, none⟩) (m + 1 + (ys.length - m)) cap7)).put (some 13) (.slice (some ⟨g7, 0, none⟩) (m + 1 + (ys.length - m)) cap7)) w7) →
      wpAnyH Tryz.prog .any insOps (NoPanic Q) S 3 #[true, true, true, true, true, true, true, false, true, true, true, false, false] b w := by
    intro b w g5 cap5 BL hb e105 e107 e111 hown hBL hbel hq
    refine wpAnyH_all (rs := [7]) (by kernel_rfl) (by simp) fun i hi => ?_
    obtain rfl : i = 7 := by simpa using hi
    refine wpOp_of rfl rfl ?_
    refine wp_append_any w rfl _ _ _ rfl W2.heap.size 135 ti _ 2 32 Tryz.underlying91 HI hz0 hz1 hz2 hz (by omega) g5 m cap5 _ e105 hown _ 1 1 [.string nm, .string va] e107 rfl (src_one hBL) (by simp [Value.oneCell']) (by simp [maxLen]; omega) (by omega) hbel.size ?_
    intro g6 cap6 w6 hown6 hB6 _ _ _ _
    have hc6 := hbel.trans hB6
    refine ⟨hS _ hc6, ?_⟩
    refine wpAnyH_all (rs := [11]) (by kernel_rfl) (by simp) fun i hi => ?_
    obtain rfl : i = 11 := by simpa using hi
    refine wpOp_of rfl rfl ?_
    refine wp_append_any w6 rfl _ _ _ rfl W2.heap.size 135 ti _ 2 32 Tryz.underlying91 HI hz0 hz1 hz2 hz (by omega) g6 (m + 1) cap6 _ (eval_same _ _ _ (by omega)) hown6 _ (ys.length - m) _ (flatL (ys.drop m)) ((eval_ne _ _ (by omega)).trans e111) hL2 (src_tail (cells_later HRC hg2 hc6) m hcv) (flatL_cell _) (by simp [maxLen]; omega) (by omega) hc6.size ?_
    intro g7 cap7 w7 hown7 hB7 _ _ _ _
    have hc7 := hc6.trans hB7
    refine ⟨hS _ hc7, ?_⟩
    refine wpAnyH_all (rs := [12]) (by kernel_rfl) (by simp) fun i hi => ?_
    obtain rfl : i = 12 := by simpa using hi
    refine wpOp_of rfl rfl ?_
    refine wp_of_run (run_assign rfl (eval_same _ _ _ (by rw [size_put]; omega)) w7) ⟨hS _ hc7, ?_⟩
    refine wpAnyH_done (by kernel_rfl) ?_ 0
    exact NoPanic.normal (hq _ g7 cap7 w7 hown7 hc7)
  refine wp_region_noPanic (wp_region_held (S := S) (by kernel_rfl) ?_)
  change wpAnyH Tryz.prog .any insOps (NoPanic Q) S 13 (Array.replicate 13 false) a W2.drew
  have hS0 : S W2.drew := hS _ (Below.refl _ _).drew
  refine wpAnyH_take (i := 1) rfl (by kernel_rfl) (by kernel_rfl) (by kernel_rfl) (fun _ _ _ h => h) (yields_of rfl (fun w _ => run_move rfl h13 w)) hS0 ?_
  refine wpAnyH_take (i := 2) rfl (by kernel_rfl) (by kernel_rfl) (by kernel_rfl) (fun _ _ _ h => h) (yields_of rfl (fun w _ => run_move rfl ((eval_ne _ _ (by omega)).trans h17) w)) hS0 ?_
  refine wpAnyH_take (i := 3) rfl (by kernel_rfl) (by kernel_rfl) (by kernel_rfl) (fun _ _ _ h => h) (yields_of rfl (fun w _ => run_head rfl ((eval_ne _ _ (by omega)).trans (eval_same _ _ _ (by omega))) (eval_same _ _ _ (by rw [size_put]; omega)) hmc w)) hS0 ?_
  refine wpAnyH_take (i := 5) rfl (by kernel_rfl) (by kernel_rfl) (by kernel_rfl) (fun _ _ _ h => h) (yields_of rfl (fun w hw => run_loadL rfl ((eval_ne _ _ (by omega)).trans ((eval_ne _ _ (by omega)).trans ((eval_ne _ _ (by omega)).trans h16))) w hw.1 hw.2)) hS0 ?_
  refine wpAnyH_take (i := 8) rfl (by kernel_rfl) (by kernel_rfl) (by kernel_rfl) (fun _ _ _ h => h) (yields_of rfl (fun w _ => run_move rfl ((eval_ne _ _ (by omega)).trans ((eval_ne _ _ (by omega)).trans ((eval_ne _ _ (by omega)).trans ((eval_ne _ _ (by omega)).trans h13)))) w)) hS0 ?_
  refine wpAnyH_take (i := 9) rfl (by kernel_rfl) (by kernel_rfl) (by kernel_rfl) (fun _ _ _ h => h) (yields_of rfl (fun w _ => run_move rfl ((eval_ne _ _ (by omega)).trans ((eval_ne _ _ (by omega)).trans ((eval_ne _ _ (by omega)).trans ((eval_ne _ _ (by omega)).trans ((eval_ne _ _ (by omega)).trans h17))))) w)) hS0 ?_
  refine wpAnyH_take (i := 10) rfl (by kernel_rfl) (by kernel_rfl) (by kernel_rfl) (fun _ _ _ h => h) (yields_of rfl (fun w _ => run_tail rfl ((eval_ne _ _ (by omega)).trans (eval_same _ _ _ (by simp only [size_put]; omega))) (eval_same _ _ _ (by simp only [size_put]; omega)) hm w)) hS0 ?_
  have hcur : Below W2.heap.size W2 W2.drew := (Below.refl _ _).drew
  generalize haP : Act.put _ _ _ = aP
  have q104 : aP.eval (.tmp 104) = .slice (some ⟨g0, 0, none⟩) m cv := by
    rw [← haP]
    exact (eval_ne _ _ (by omega)).trans ((eval_ne _ _ (by omega)).trans ((eval_ne _ _ (by omega)).trans ((eval_ne _ _ (by omega)).trans (eval_same _ _ _ (by simp only [size_put]; omega)))))
  have q106 : aP.eval (.tmp 106) = .agg #[.string nm, .string va] := by
    rw [← haP]
    exact (eval_ne _ _ (by omega)).trans ((eval_ne _ _ (by omega)).trans ((eval_ne _ _ (by omega)).trans (eval_same _ _ _ (by simp only [size_put]; omega))))
  have q111 : aP.eval (.tmp 111) = .slice (if cv = m then some ⟨g0, 0, none⟩ else some ⟨g0, m * 2, none⟩) (ys.length - m) (cv - m) := by
    rw [← haP]
    exact eval_same _ _ _ (by simp only [size_put]; omega)
  have hszP : 118 ≤ aP.tmps.size := by rw [← haP]; simp only [size_put]; omega
  have HQP : ∀ (v101 v105 v107 v108 : Value) (g7 cap7 : Nat) (w7 : World), w7.ownsRow W2.heap.size 135 2 (.slice (some ⟨g7, 0, none⟩) (m + 1 + (ys.length - m)) cap7) (m + 1 + (ys.length - m)) (flatL (ys.take m) ++ [.string nm, .string va] ++ flatL (ys.drop m)) → Below W2.heap.size W2 w7 →
      Q .normal ((((((aP.put (some 101) v101).put (some 105) v105).put (some 107) v107).put (some 108) v108).put (some 112) (.slice (some ⟨g7, 0, none⟩) (m + 1 + (ys.length - m)) cap7)).put (some 13) (.slice (some ⟨g7, 0, none⟩) (m + 1 + (ys.length - m)) cap7)) w7 := by
    rw [← haP]
    exact fun v101 v105 v107 v108 => HQ _ _ _ _ _ _ _ v101 v105 v107 v108
  clear haP HQ h13 h16 h17 hsz
  have fin : ∀ (v101 : Value) (g5 cap5 BL : Nat) (w : World), w.ownsRow W2.heap.size 135 2 (.slice (some ⟨g5, 0, none⟩) m cap5) m (flatL (ys.take m)) → w.heap[BL]? = some (.cells #[.string nm, .string va] 135 (0, 0)) → Below W2.heap.size W2 w →
      wpAnyH Tryz.prog .any insOps (NoPanic Q) S 3 #[true, true, true, true, true, true, true, false, true, true, true, false, false] (((aP.put (some 101) v101).put (some 105) (.slice (some ⟨g5, 0, none⟩) m cap5)).put (some 107) (.slice (some ⟨BL, 0, none⟩) 1 1)) w := by
    intro v101 g5 cap5 BL w ho hl hb
    refine tail _ w g5 cap5 BL (by simp only [size_put]; omega) ((eval_ne _ _ (by omega)).trans (eval_same _ _ _ (by simp only [size_put]; omega))) (eval_same _ _ _ (by simp only [size_put]; omega)) ((eval_ne _ _ (by omega)).trans ((eval_ne _ _ (by omega)).trans ((eval_ne _ _ (by omega)).trans q111))) ho hl hb ?_
    exact fun v108 g7 cap7 w7 => HQP v101 _ _ v108 g7 cap7 w7
  have c57 : ∀ (b : Act) (x y : Value), (b.put (some 107) x).put (some 105) y = (b.put (some 105) y).put (some 107) x := fun b x y => Act.put_comm b x y (fun d hd h => by rw [← hd] at h; exact absurd h (by simp))
  have c17 : ∀ (b : Act) (x y : Value), (b.put (some 107) x).put (some 101) y = (b.put (some 101) y).put (some 107) x := fun b x y => Act.put_comm b x y (fun d hd h => by rw [← hd] at h; exact absurd h (by simp))
  refine wpAnyH_all (rs := [0, 6]) (by kernel_rfl) (by simp) fun i hi => ?_
  have hi2 : i = 0 ∨ i = 6 := by simpa using hi
  rcases hi2 with rfl | rfl
  · refine wpOp_of rfl rfl (wp_of_run (run_empty rfl _) ⟨hS _ (bel_a W2 _), ?_⟩)
    refine wpAnyH_all (rs := [4, 6]) (by kernel_rfl) (by simp) fun i hi => ?_
    have hi2 : i = 4 ∨ i = 6 := by simpa using hi
    rcases hi2 with rfl | rfl
    · refine wpOp_of rfl rfl ?_
      refine wp_append_any _ rfl _ _ _ rfl W2.heap.size 135 ti _ 2 32 Tryz.underlying91 HI hz0 hz1 hz2 hz (by omega) W2.heap.size 0 0 [] (eval_same _ _ _ (by omega)) (rowE_a W2 _) _ m _ (flatL (ys.take m)) ((eval_ne _ _ (by omega)).trans q104) hL1 (src_head (cells_later HRC hg2 (bel_a W2 _)) m) (flatL_cell _) (by simp [maxLen]; omega) (by omega) (bel_a W2 _).size ?_
      intro g5 cap5 w5 hown5 hB5 _ _ _ _
      have hc5 : Below W2.heap.size W2 w5 := (bel_a W2 _).trans hB5
      simp only [Nat.zero_add, List.nil_append] at hown5 ⊢
      refine ⟨hS _ hc5, ?_⟩
      refine wpAnyH_all (rs := [6]) (by kernel_rfl) (by simp) fun i hi => ?_
      obtain rfl : i = 6 := by simpa using hi
      refine wpOp_of rfl rfl (wp_of_run (run_single rfl ((eval_ne _ _ (by omega)).trans ((eval_ne _ _ (by omega)).trans q106)) w5) ⟨hS _ (hc5.alloc hc5.size _), ?_⟩)
      exact fin _ g5 cap5 w5.heap.size _ (row_later hown5 (bnew _ _)) (heap_alloc_new _ _) (hc5.alloc hc5.size _)
    · refine wpOp_of rfl rfl (wp_of_run (run_single rfl ((eval_ne _ _ (by omega)).trans q106) _) ⟨hS _ (bel_b W2 _ _), ?_⟩)
      refine wpAnyH_all (rs := [4]) (by kernel_rfl) (by simp) fun i hi => ?_
      obtain rfl : i = 4 := by simpa using hi
      refine wpOp_of rfl rfl ?_
      refine wp_append_any _ rfl _ _ _ rfl W2.heap.size 135 ti _ 2 32 Tryz.underlying91 HI hz0 hz1 hz2 hz (by omega) W2.heap.size 0 0 [] ((eval_ne _ _ (by omega)).trans (eval_same _ _ _ (by omega))) (rowE_b W2 _ _) _ m _ (flatL (ys.take m)) ((eval_ne _ _ (by omega)).trans ((eval_ne _ _ (by omega)).trans q104)) hL1 (src_head (cells_later HRC hg2 (bel_b W2 _ _)) m) (flatL_cell _) (by simp [maxLen]; omega) (by omega) (bel_b W2 _ _).size ?_
      intro g5 cap5 w5 hown5 hB5 hk5 _ _ _
      have hc5 : Below W2.heap.size W2 w5 := (bel_b W2 _ _).trans hB5
      have hl5 : w5.heap[W2.heap.size + 1]? = some (.cells #[.string nm, .string va] 135 (0, 0)) := (hk5 (W2.heap.size + 1) (by show _ < (World.alloc _ _).heap.size; simp) (by omega)).trans (two_new W2 _ _)
      simp only [Nat.zero_add, List.nil_append] at hown5 ⊢
      refine ⟨hS _ hc5, ?_⟩
      have h := fin (.slice (some ⟨W2.heap.size, 0, none⟩) 0 0) g5 cap5 (W2.heap.size + 1) w5 hown5 hl5 hc5
      rw [← c57, show W2.heap.size + 1 = (W2.drew.alloc (.cells #[] 135)).heap.size by simp] at h
      exact h
  · refine wpOp_of rfl rfl (wp_of_run (run_single rfl q106 _) ⟨hS _ (bel_a W2 _), ?_⟩)
    refine wpAnyH_all (rs := [0]) (by kernel_rfl) (by simp) fun i hi => ?_
    obtain rfl : i = 0 := by simpa using hi
    refine wpOp_of rfl rfl (wp_of_run (run_empty rfl _) ⟨hS _ (bel_b W2 _ _), ?_⟩)
    refine wpAnyH_all (rs := [4]) (by kernel_rfl) (by simp) fun i hi => ?_
    obtain rfl : i = 4 := by simpa using hi
    refine wpOp_of rfl rfl ?_
    refine wp_append_any _ rfl _ _ _ rfl W2.heap.size 135 ti _ 2 32 Tryz.underlying91 HI hz0 hz1 hz2 hz (by omega) (W2.heap.size + 1) 0 0 [] ((eval_same _ _ _ (by simp only [size_put]; omega)).trans (by rw [show (W2.drew.alloc (.cells #[.string nm, .string va] 135)).heap.size = W2.heap.size + 1 by simp])) (rowE_c W2 _ _) _ m _ (flatL (ys.take m)) ((eval_ne _ _ (by omega)).trans ((eval_ne _ _ (by omega)).trans q104)) hL1 (src_head (cells_later HRC hg2 (bel_b W2 _ _)) m) (flatL_cell _) (by simp [maxLen]; omega) (by omega) (bel_b W2 _ _).size ?_
    intro g5 cap5 w5 hown5 hB5 hk5 _ _ _
    have hc5 : Below W2.heap.size W2 w5 := (bel_b W2 _ _).trans hB5
    have hl5 : w5.heap[W2.heap.size]? = some (.cells #[.string nm, .string va] 135 (0, 0)) := (hk5 W2.heap.size (by show _ < (World.alloc _ _).heap.size; simp; omega) (by omega)).trans (two_old W2 _ _)
    simp only [Nat.zero_add, List.nil_append] at hown5 ⊢
    refine ⟨hS _ hc5, ?_⟩
    have h := fin (.slice (some ⟨(W2.drew.alloc (.cells #[.string nm, .string va] 135)).heap.size, 0, none⟩) 0 0) g5 cap5 W2.heap.size w5 hown5 hl5 hc5
    rw [← c57, ← c17] at h
    exact h
end Go.Proofs.YtojeemogabhaoaaGreatDoor
