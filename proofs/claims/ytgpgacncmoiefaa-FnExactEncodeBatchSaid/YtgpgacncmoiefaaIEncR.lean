import Derived.Test.YtgpgacncmoiefaaProg
import Derived.Test.YtgpgacncmoiefaaIRec
import Derived.Deep.RegionHeld3
import Derived.Laws.StructEq
namespace Go.Proofs.Ytgpgacncmoiefaa
open Go.RowKit

theorem exec_invoke0 {P : Program} (ρ : Operand → Value) (o : Oper) (r : Operand) (name : String) (ho : o.op = .call { callee := .invoke r name, args := #[], argTypes := #[] }) {u : Value} (hr : ρ r = u) {n : Next} {w : World}
    (h : (invoke (.fn (.method name) #[]) #[u]).run P w = .ok n w) : (execOp ρ o).run P w = .ok n w := by
  unfold execOp
  simp only [ho, resolve]
  simp [hr, h]
theorem wpQuiet_enter {P : Program} {ops : Array Oper} {C : World → Prop} {Q : Act → Prop} {a : Act} {o : Oper} {rest : List Oper} {f : FuncId} {args : Array Value} {v : Value} (hw : Region.wanted o (yielded ops a.tmps) = true)
    (hx : ∀ w, (execOp a.eval o).run P w = .ok (.enter f args) w) (hc : ∀ w, C w → Calls P f args w (fun e w'' => e = .returned v ∧ C w'')) (h : wpQuiet P ops C Q rest (a.put o.dst v)) : wpQuiet P ops C Q (o :: rest) a :=
  BigFrame.wpQuiet_want hw fun K hK => ⟨v, fun w hw => by unfold Oper.quietAt; rw [hx]; exact ⟨rfl, hc w hw⟩, hK _ h⟩

theorem wpQuiet_val {P : Program} {ops : Array Oper} {C : World → Prop} {Q : Act → Prop} {a : Act} {o : Oper} {rest : List Oper} {v : Value} (hw : Region.wanted o (yielded ops a.tmps) = true)
    (hx : ∀ w, (execOp a.eval o).run P w = .ok (.value v) w) (h : wpQuiet P ops C Q rest (a.put o.dst v)) : wpQuiet P ops C Q (o :: rest) a :=
  BigFrame.wpQuiet_want hw fun K hK => ⟨v, fun w hw => by unfold Oper.quietAt; rw [hx]; exact ⟨rfl, rfl⟩, hK _ h⟩
theorem eqlRec (k k' n n' : Int) (t t' x x' : ByteArray) (W : World) : (binOp .eql 67 (.agg #[.int .i64 k, .string t, .string x, .int .i64 n]) (.agg #[.int .i64 k', .string t', .string x', .int .i64 n'])).run Try.prog W = .ok (.bool (k == k' && (t.toList == t'.toList && (x.toList == x'.toList && n == n')))) W := by
  rw [run_eql_struct, run_equalIn_agg W _ _ _ _ (by kernel_rfl) (by kernel_rfl)]
  unfold Program.fieldsOf
  rw [Try.underlying67]
  simp [Op.eqFields, go_sem, Try.underlying3, Try.underlying9]
  repeat' split
  all_goals simp_all
theorem exec_eqlRec (ρ : Operand → Value) (o : Oper) (p q : Operand) (ho : o.op = .binOp .eql 67 p q 67) {k k' n n' : Int} {t t' x x' : ByteArray}
    (hp : ρ p = .agg #[.int .i64 k, .string t, .string x, .int .i64 n]) (hq : ρ q = .agg #[.int .i64 k', .string t', .string x', .int .i64 n']) {b : Bool} (hb : (k == k' && (t.toList == t'.toList && (x.toList == x'.toList && n == n'))) = b) (W : World) :
    (execOp ρ o).run Try.prog W = .ok (.value (.bool b)) W := by
  unfold execOp
  simp only [ho, hp, hq, Sem.run_bind, run_eqGuard_agg W _ _ _ _ _ _ (show Try.prog.eqGuardType Try.prog.depth 67 = false by kernel_rfl), Result.andThen_ok, eqlRec, hb, Sem.run_pure]

theorem bempty {x : ByteArray} : x.toList = ByteArray.empty.toList ↔ x.size = 0 := by
  rw [ByteArray.toList_eq, ByteArray.toList_eq]
  constructor
  · intro h; show x.data.size = 0; rw [← Array.length_toList, h]; rfl
  · intro h; have : x.data.toList.length = 0 := by simpa using h
    rw [List.length_eq_zero_iff.1 this]; rfl

set_option maxRecDepth 100000 in
set_option maxHeartbeats 2000000 in
theorem isEnc1 (te tx : ByteArray) (nu : Int) (w : World) (h1 : te.size ≤ 1000000000) (h2 : tx.size ≤ 1000000000) :
    Calls Try.prog 48 #[.agg #[.int .i64 1, .string te, .string tx, .int .i64 nu]] w fun e w' => e = .returned (.bool (rcB ⟨1, te, tx, nu⟩)) ∧ Below w.heap.size w w' := by
  by_cases h : nu = 0
  · subst h
    have HR : Hid (∀ W, Calls Try.prog 72 #[.agg #[.int .i64 1, .string te, .string tx, .int .i64 0]] W fun e w' => e = .returned (.tuple #[.iface 127 (.agg #[.int .i64 1, .string te, .string tx]), .bool true]) ∧ Below W.heap.size W w') := fun W => recordOf_any ⟨1, te, tx, 0⟩ W
    have HE : Hid (((1 : Int) == 1 && (te.toList == te.toList && (tx.toList == tx.toList && (0 : Int) == 0))) = true) := hid (by simp)
    by_cases z1 : te.size ≤ 255
    · have hz : decide ((te.size : Int) ≤ 255) = true := decide_eq_true (by omega)
      have E : Hid (rcB ⟨1, te, tx, 0⟩ = decide ((tx.size : Int) ≤ 65535)) := hid (by
        by_cases z2 : tx.size ≤ 65535
        · rw [rcB_t (show recOK ⟨1, te, tx, 0⟩ from ⟨z1, z2, Or.inl ⟨rfl, rfl⟩⟩), decide_eq_true (by omega)]
        · rw [rcB_f (show ¬ recOK ⟨1, te, tx, 0⟩ from fun hh => z2 hh.2.1), decide_eq_false (by omega)])
      clear z1
      go_enter Try.func48, Try.ntmps48
      go_wp2_with fail
      refine (HR.out _).mono ?_
      rintro e w1 ⟨rfl, hb1⟩
      have B1 : Hid (Below w.heap.size w w1) := bto (bnew _ _) hb1
      have R1 : Hid (Blk w1 w.heap.size #[.int .i64 1, .string te, .string tx, .int .i64 0] 67) := hid ((Blk.new _ _ _).later hb1)
      have d0 : ∀ x : Later w1, x.w'.cell? ⟨w.heap.size, 0, none⟩ = some (.int .i64 1) := Later.cells (R1.out.cell 0)
      have d1 : ∀ x : Later w1, x.w'.cell? ⟨w.heap.size, 1, none⟩ = some (.string te) := Later.cells (R1.out.cell 1)
      have d2 : ∀ x : Later w1, x.w'.cell? ⟨w.heap.size, 2, none⟩ = some (.string tx) := Later.cells (R1.out.cell 2)
      have d3 : ∀ x : Later w1, x.w'.cell? ⟨w.heap.size, 3, none⟩ = some (.int .i64 0) := Later.cells (R1.out.cell 3)
      have hne := Later.there w1
      clear hb1
      go_wp2_with fail
      refine wp_region_later (by kernel_rfl) (by kernel_rfl) ?_
      repeat (go_big_quiet_step (fail))
      refine wpQuiet_enter (by rfl) (fun W => exec_invoke0 _ _ _ _ rfl rfl (invokeFlat1 _ W)) (by rintro _ ⟨x, rfl⟩; exact calls_later (flatS_any _ _ _ _)) ?_
      simp only [Act.put, List.setIfInBounds_toArray, List.set_cons_succ, List.set_cons_zero]
      repeat (go_big_quiet_step (fail))
      first
        | (refine wpQuiet_val (v := .bool true) (by rfl) (exec_eqlRec _ _ _ _ rfl rfl rfl HE.out) ?_; simp only [Act.put, List.setIfInBounds_toArray, List.set_cons_succ, List.set_cons_zero]; repeat (go_big_quiet_step (fail)))
        | skip
      refine wpQuiet_nil ?_
      rintro _ ⟨x, rfl⟩
      have BX : Hid (Below w.heap.size w x.w') := bto B1.out x.h
      go_wp2
      go_ret
      exact ⟨ret_bool E.out.symm, BX.out⟩
    · have hz : decide ((te.size : Int) ≤ 255) = false := decide_eq_false (by omega)
      have E : Hid (rcB ⟨1, te, tx, 0⟩ = false) := hid (rcB_f fun hh => z1 hh.1)
      clear z1
      go_enter Try.func48, Try.ntmps48
      go_wp2_with fail
      refine (HR.out _).mono ?_
      rintro e w1 ⟨rfl, hb1⟩
      have B1 : Hid (Below w.heap.size w w1) := bto (bnew _ _) hb1
      have R1 : Hid (Blk w1 w.heap.size #[.int .i64 1, .string te, .string tx, .int .i64 0] 67) := hid ((Blk.new _ _ _).later hb1)
      have d0 : ∀ x : Later w1, x.w'.cell? ⟨w.heap.size, 0, none⟩ = some (.int .i64 1) := Later.cells (R1.out.cell 0)
      have d1 : ∀ x : Later w1, x.w'.cell? ⟨w.heap.size, 1, none⟩ = some (.string te) := Later.cells (R1.out.cell 1)
      have d2 : ∀ x : Later w1, x.w'.cell? ⟨w.heap.size, 2, none⟩ = some (.string tx) := Later.cells (R1.out.cell 2)
      have d3 : ∀ x : Later w1, x.w'.cell? ⟨w.heap.size, 3, none⟩ = some (.int .i64 0) := Later.cells (R1.out.cell 3)
      have hne := Later.there w1
      clear hb1
      go_wp2_with fail
      refine wp_region_later (by kernel_rfl) (by kernel_rfl) ?_
      repeat (go_big_quiet_step (fail))
      refine wpQuiet_enter (by rfl) (fun W => exec_invoke0 _ _ _ _ rfl rfl (invokeFlat1 _ W)) (by rintro _ ⟨x, rfl⟩; exact calls_later (flatS_any _ _ _ _)) ?_
      simp only [Act.put, List.setIfInBounds_toArray, List.set_cons_succ, List.set_cons_zero]
      repeat (go_big_quiet_step (fail))
      first
        | (refine wpQuiet_val (v := .bool true) (by rfl) (exec_eqlRec _ _ _ _ rfl rfl rfl HE.out) ?_; simp only [Act.put, List.setIfInBounds_toArray, List.set_cons_succ, List.set_cons_zero]; repeat (go_big_quiet_step (fail)))
        | skip
      refine wpQuiet_nil ?_
      rintro _ ⟨x, rfl⟩
      have BX : Hid (Below w.heap.size w x.w') := bto B1.out x.h
      go_wp2
      go_ret
      exact ⟨ret_bool E.out.symm, BX.out⟩
  · have HR : Hid (∀ W, Calls Try.prog 72 #[.agg #[.int .i64 1, .string te, .string tx, .int .i64 nu]] W fun e w' => e = .returned (.tuple #[.iface 127 (.agg #[.int .i64 1, .string te, .string tx]), .bool true]) ∧ Below W.heap.size W w') := fun W => recordOf_any ⟨1, te, tx, nu⟩ W
    have HE : Hid (((1 : Int) == 1 && (te.toList == te.toList && (tx.toList == tx.toList && (0 : Int) == nu))) = false) := hid (by simp; omega)
    have E : Hid (rcB ⟨1, te, tx, nu⟩ = false) := hid (rcB_f fun hh => hh.2.2.elim (fun g => h g.2) (fun g => g.elim (fun g => absurd g.1 (show ¬ (1 : Int) = 2 by decide)) (fun g => absurd g (show ¬ (1 : Int) = 3 by decide))))
    clear h
    go_enter Try.func48, Try.ntmps48
    go_wp2_with fail
    refine (HR.out _).mono ?_
    rintro e w1 ⟨rfl, hb1⟩
    have B1 : Hid (Below w.heap.size w w1) := bto (bnew _ _) hb1
    have R1 : Hid (Blk w1 w.heap.size #[.int .i64 1, .string te, .string tx, .int .i64 nu] 67) := hid ((Blk.new _ _ _).later hb1)
    have d0 : ∀ x : Later w1, x.w'.cell? ⟨w.heap.size, 0, none⟩ = some (.int .i64 1) := Later.cells (R1.out.cell 0)
    have d1 : ∀ x : Later w1, x.w'.cell? ⟨w.heap.size, 1, none⟩ = some (.string te) := Later.cells (R1.out.cell 1)
    have d2 : ∀ x : Later w1, x.w'.cell? ⟨w.heap.size, 2, none⟩ = some (.string tx) := Later.cells (R1.out.cell 2)
    have d3 : ∀ x : Later w1, x.w'.cell? ⟨w.heap.size, 3, none⟩ = some (.int .i64 nu) := Later.cells (R1.out.cell 3)
    have hne := Later.there w1
    clear hb1
    go_wp2_with fail
    refine wp_region_later (by kernel_rfl) (by kernel_rfl) ?_
    repeat (go_big_quiet_step (fail))
    refine wpQuiet_enter (by rfl) (fun W => exec_invoke0 _ _ _ _ rfl rfl (invokeFlat1 _ W)) (by rintro _ ⟨x, rfl⟩; exact calls_later (flatS_any _ _ _ _)) ?_
    simp only [Act.put, List.setIfInBounds_toArray, List.set_cons_succ, List.set_cons_zero]
    repeat (go_big_quiet_step (fail))
    first
      | (refine wpQuiet_val (v := .bool false) (by rfl) (exec_eqlRec _ _ _ _ rfl rfl rfl HE.out) ?_; simp only [Act.put, List.setIfInBounds_toArray, List.set_cons_succ, List.set_cons_zero]; repeat (go_big_quiet_step (fail)))
      | skip
    refine wpQuiet_nil ?_
    rintro _ ⟨x, rfl⟩
    have BX : Hid (Below w.heap.size w x.w') := bto B1.out x.h
    go_wp2
    go_ret
    exact ⟨ret_bool E.out.symm, BX.out⟩

set_option maxRecDepth 100000 in
set_option maxHeartbeats 2000000 in
theorem isEnc2 (te tx : ByteArray) (nu : Int) (w : World) (h1 : te.size ≤ 1000000000) (h2 : tx.size ≤ 1000000000) :
    Calls Try.prog 48 #[.agg #[.int .i64 2, .string te, .string tx, .int .i64 nu]] w fun e w' => e = .returned (.bool (rcB ⟨2, te, tx, nu⟩)) ∧ Below w.heap.size w w' := by
  have HR : Hid (∀ W, Calls Try.prog 72 #[.agg #[.int .i64 2, .string te, .string tx, .int .i64 nu]] W fun e w' => e = .returned (.tuple #[.iface 129 (.agg #[.int .i64 2, .string ByteArray.empty, .int .i64 nu]), .bool true]) ∧ Below W.heap.size W w') := fun W => recordOf_any ⟨2, te, tx, nu⟩ W
  by_cases h : te.size = 0 ∧ tx.size = 0
  · have HE : Hid (((2 : Int) == 2 && (ByteArray.empty.toList == te.toList && (ByteArray.empty.toList == tx.toList && nu == nu))) = true) := hid (by rw [bempty.2 h.1, bempty.2 h.2]; simp)
    have HH : Hid (te.size = 0 ∧ tx.size = 0) := h
    clear h
    by_cases z1 : te.size ≤ 255
    · have hz : decide ((te.size : Int) ≤ 255) = true := decide_eq_true (by omega)
      have E : Hid (rcB ⟨2, te, tx, nu⟩ = decide ((tx.size : Int) ≤ 65535)) := hid (by
        by_cases z2 : tx.size ≤ 65535
        · rw [rcB_t (show recOK ⟨2, te, tx, nu⟩ from ⟨z1, z2, Or.inr (Or.inl ⟨rfl, HH.out⟩)⟩), decide_eq_true (by omega)]
        · rw [rcB_f (show ¬ recOK ⟨2, te, tx, nu⟩ from fun hh => z2 hh.2.1), decide_eq_false (by omega)])
      clear z1
      go_enter Try.func48, Try.ntmps48
      go_wp2_with fail
      refine (HR.out _).mono ?_
      rintro e w1 ⟨rfl, hb1⟩
      have B1 : Hid (Below w.heap.size w w1) := bto (bnew _ _) hb1
      have R1 : Hid (Blk w1 w.heap.size #[.int .i64 2, .string te, .string tx, .int .i64 nu] 67) := hid ((Blk.new _ _ _).later hb1)
      have d0 : ∀ x : Later w1, x.w'.cell? ⟨w.heap.size, 0, none⟩ = some (.int .i64 2) := Later.cells (R1.out.cell 0)
      have d1 : ∀ x : Later w1, x.w'.cell? ⟨w.heap.size, 1, none⟩ = some (.string te) := Later.cells (R1.out.cell 1)
      have d2 : ∀ x : Later w1, x.w'.cell? ⟨w.heap.size, 2, none⟩ = some (.string tx) := Later.cells (R1.out.cell 2)
      have d3 : ∀ x : Later w1, x.w'.cell? ⟨w.heap.size, 3, none⟩ = some (.int .i64 nu) := Later.cells (R1.out.cell 3)
      have hne := Later.there w1
      clear hb1
      go_wp2_with fail
      refine wp_region_later (by kernel_rfl) (by kernel_rfl) ?_
      repeat (go_big_quiet_step (fail))
      refine wpQuiet_enter (by rfl) (fun W => exec_invoke0 _ _ _ _ rfl rfl (invokeFlat2 _ W)) (by rintro _ ⟨x, rfl⟩; exact calls_later (flatT_any _ _ _ _)) ?_
      simp only [Act.put, List.setIfInBounds_toArray, List.set_cons_succ, List.set_cons_zero]
      repeat (go_big_quiet_step (fail))
      first
        | (refine wpQuiet_val (v := .bool true) (by rfl) (exec_eqlRec _ _ _ _ rfl rfl rfl HE.out) ?_; simp only [Act.put, List.setIfInBounds_toArray, List.set_cons_succ, List.set_cons_zero]; repeat (go_big_quiet_step (fail)))
        | skip
      refine wpQuiet_nil ?_
      rintro _ ⟨x, rfl⟩
      have BX : Hid (Below w.heap.size w x.w') := bto B1.out x.h
      go_wp2
      go_ret
      exact ⟨ret_bool E.out.symm, BX.out⟩
    · have hz : decide ((te.size : Int) ≤ 255) = false := decide_eq_false (by omega)
      have E : Hid (rcB ⟨2, te, tx, nu⟩ = false) := hid (rcB_f fun hh => z1 hh.1)
      clear z1
      go_enter Try.func48, Try.ntmps48
      go_wp2_with fail
      refine (HR.out _).mono ?_
      rintro e w1 ⟨rfl, hb1⟩
      have B1 : Hid (Below w.heap.size w w1) := bto (bnew _ _) hb1
      have R1 : Hid (Blk w1 w.heap.size #[.int .i64 2, .string te, .string tx, .int .i64 nu] 67) := hid ((Blk.new _ _ _).later hb1)
      have d0 : ∀ x : Later w1, x.w'.cell? ⟨w.heap.size, 0, none⟩ = some (.int .i64 2) := Later.cells (R1.out.cell 0)
      have d1 : ∀ x : Later w1, x.w'.cell? ⟨w.heap.size, 1, none⟩ = some (.string te) := Later.cells (R1.out.cell 1)
      have d2 : ∀ x : Later w1, x.w'.cell? ⟨w.heap.size, 2, none⟩ = some (.string tx) := Later.cells (R1.out.cell 2)
      have d3 : ∀ x : Later w1, x.w'.cell? ⟨w.heap.size, 3, none⟩ = some (.int .i64 nu) := Later.cells (R1.out.cell 3)
      have hne := Later.there w1
      clear hb1
      go_wp2_with fail
      refine wp_region_later (by kernel_rfl) (by kernel_rfl) ?_
      repeat (go_big_quiet_step (fail))
      refine wpQuiet_enter (by rfl) (fun W => exec_invoke0 _ _ _ _ rfl rfl (invokeFlat2 _ W)) (by rintro _ ⟨x, rfl⟩; exact calls_later (flatT_any _ _ _ _)) ?_
      simp only [Act.put, List.setIfInBounds_toArray, List.set_cons_succ, List.set_cons_zero]
      repeat (go_big_quiet_step (fail))
      first
        | (refine wpQuiet_val (v := .bool true) (by rfl) (exec_eqlRec _ _ _ _ rfl rfl rfl HE.out) ?_; simp only [Act.put, List.setIfInBounds_toArray, List.set_cons_succ, List.set_cons_zero]; repeat (go_big_quiet_step (fail)))
        | skip
      refine wpQuiet_nil ?_
      rintro _ ⟨x, rfl⟩
      have BX : Hid (Below w.heap.size w x.w') := bto B1.out x.h
      go_wp2
      go_ret
      exact ⟨ret_bool E.out.symm, BX.out⟩
  · have HE : Hid (((2 : Int) == 2 && (ByteArray.empty.toList == te.toList && (ByteArray.empty.toList == tx.toList && nu == nu))) = false) := hid (by apply Bool.eq_false_iff.2; intro hh; simp only [Bool.and_eq_true, beq_iff_eq] at hh; exact h ⟨bempty.1 hh.2.1.symm, bempty.1 hh.2.2.1.symm⟩)
    have E : Hid (rcB ⟨2, te, tx, nu⟩ = false) := hid (rcB_f fun hh => hh.2.2.elim (fun g => absurd g.1 (show ¬ (2 : Int) = 1 by decide)) (fun g => g.elim (fun g => h g.2) (fun g => absurd g (show ¬ (2 : Int) = 3 by decide))))
    clear h
    go_enter Try.func48, Try.ntmps48
    go_wp2_with fail
    refine (HR.out _).mono ?_
    rintro e w1 ⟨rfl, hb1⟩
    have B1 : Hid (Below w.heap.size w w1) := bto (bnew _ _) hb1
    have R1 : Hid (Blk w1 w.heap.size #[.int .i64 2, .string te, .string tx, .int .i64 nu] 67) := hid ((Blk.new _ _ _).later hb1)
    have d0 : ∀ x : Later w1, x.w'.cell? ⟨w.heap.size, 0, none⟩ = some (.int .i64 2) := Later.cells (R1.out.cell 0)
    have d1 : ∀ x : Later w1, x.w'.cell? ⟨w.heap.size, 1, none⟩ = some (.string te) := Later.cells (R1.out.cell 1)
    have d2 : ∀ x : Later w1, x.w'.cell? ⟨w.heap.size, 2, none⟩ = some (.string tx) := Later.cells (R1.out.cell 2)
    have d3 : ∀ x : Later w1, x.w'.cell? ⟨w.heap.size, 3, none⟩ = some (.int .i64 nu) := Later.cells (R1.out.cell 3)
    have hne := Later.there w1
    clear hb1
    go_wp2_with fail
    refine wp_region_later (by kernel_rfl) (by kernel_rfl) ?_
    repeat (go_big_quiet_step (fail))
    refine wpQuiet_enter (by rfl) (fun W => exec_invoke0 _ _ _ _ rfl rfl (invokeFlat2 _ W)) (by rintro _ ⟨x, rfl⟩; exact calls_later (flatT_any _ _ _ _)) ?_
    simp only [Act.put, List.setIfInBounds_toArray, List.set_cons_succ, List.set_cons_zero]
    repeat (go_big_quiet_step (fail))
    first
      | (refine wpQuiet_val (v := .bool false) (by rfl) (exec_eqlRec _ _ _ _ rfl rfl rfl HE.out) ?_; simp only [Act.put, List.setIfInBounds_toArray, List.set_cons_succ, List.set_cons_zero]; repeat (go_big_quiet_step (fail)))
      | skip
    refine wpQuiet_nil ?_
    rintro _ ⟨x, rfl⟩
    have BX : Hid (Below w.heap.size w x.w') := bto B1.out x.h
    go_wp2
    go_ret
    exact ⟨ret_bool E.out.symm, BX.out⟩

set_option maxRecDepth 100000 in
set_option maxHeartbeats 2000000 in
theorem isEnc3 (te tx : ByteArray) (nu : Int) (w : World) (h1 : te.size ≤ 1000000000) (h2 : tx.size ≤ 1000000000) :
    Calls Try.prog 48 #[.agg #[.int .i64 3, .string te, .string tx, .int .i64 nu]] w fun e w' => e = .returned (.bool (rcB ⟨3, te, tx, nu⟩)) ∧ Below w.heap.size w w' := by
  have HR : Hid (∀ W, Calls Try.prog 72 #[.agg #[.int .i64 3, .string te, .string tx, .int .i64 nu]] W fun e w' => e = .returned (.tuple #[.iface 131 (.agg #[.int .i64 3, .string te, .string tx, .int .i64 nu]), .bool true]) ∧ Below W.heap.size W w') := fun W => recordOf_any ⟨3, te, tx, nu⟩ W
  have HE : Hid (((3 : Int) == 3 && (te.toList == te.toList && (tx.toList == tx.toList && nu == nu))) = true) := hid (by simp)
  by_cases z1 : te.size ≤ 255
  · have hz : decide ((te.size : Int) ≤ 255) = true := decide_eq_true (by omega)
    have E : Hid (rcB ⟨3, te, tx, nu⟩ = decide ((tx.size : Int) ≤ 65535)) := hid (by
      by_cases z2 : tx.size ≤ 65535
      · rw [rcB_t (show recOK ⟨3, te, tx, nu⟩ from ⟨z1, z2, Or.inr (Or.inr rfl)⟩), decide_eq_true (by omega)]
      · rw [rcB_f (show ¬ recOK ⟨3, te, tx, nu⟩ from fun hh => z2 hh.2.1), decide_eq_false (by omega)])
    clear z1
    go_enter Try.func48, Try.ntmps48
    go_wp2_with fail
    refine (HR.out _).mono ?_
    rintro e w1 ⟨rfl, hb1⟩
    have B1 : Hid (Below w.heap.size w w1) := bto (bnew _ _) hb1
    have R1 : Hid (Blk w1 w.heap.size #[.int .i64 3, .string te, .string tx, .int .i64 nu] 67) := hid ((Blk.new _ _ _).later hb1)
    have d0 : ∀ x : Later w1, x.w'.cell? ⟨w.heap.size, 0, none⟩ = some (.int .i64 3) := Later.cells (R1.out.cell 0)
    have d1 : ∀ x : Later w1, x.w'.cell? ⟨w.heap.size, 1, none⟩ = some (.string te) := Later.cells (R1.out.cell 1)
    have d2 : ∀ x : Later w1, x.w'.cell? ⟨w.heap.size, 2, none⟩ = some (.string tx) := Later.cells (R1.out.cell 2)
    have d3 : ∀ x : Later w1, x.w'.cell? ⟨w.heap.size, 3, none⟩ = some (.int .i64 nu) := Later.cells (R1.out.cell 3)
    have hne := Later.there w1
    clear hb1
    go_wp2_with fail
    refine wp_region_later (by kernel_rfl) (by kernel_rfl) ?_
    repeat (go_big_quiet_step (fail))
    refine wpQuiet_enter (by rfl) (fun W => exec_invoke0 _ _ _ _ rfl rfl (invokeFlat3 _ W)) (by rintro _ ⟨x, rfl⟩; exact calls_later (flatL_any _ _ _ _ _)) ?_
    simp only [Act.put, List.setIfInBounds_toArray, List.set_cons_succ, List.set_cons_zero]
    repeat (go_big_quiet_step (fail))
    first
      | (refine wpQuiet_val (v := .bool true) (by rfl) (exec_eqlRec _ _ _ _ rfl rfl rfl HE.out) ?_; simp only [Act.put, List.setIfInBounds_toArray, List.set_cons_succ, List.set_cons_zero]; repeat (go_big_quiet_step (fail)))
      | skip
    refine wpQuiet_nil ?_
    rintro _ ⟨x, rfl⟩
    have BX : Hid (Below w.heap.size w x.w') := bto B1.out x.h
    go_wp2
    go_ret
    exact ⟨ret_bool E.out.symm, BX.out⟩
  · have hz : decide ((te.size : Int) ≤ 255) = false := decide_eq_false (by omega)
    have E : Hid (rcB ⟨3, te, tx, nu⟩ = false) := hid (rcB_f fun hh => z1 hh.1)
    clear z1
    go_enter Try.func48, Try.ntmps48
    go_wp2_with fail
    refine (HR.out _).mono ?_
    rintro e w1 ⟨rfl, hb1⟩
    have B1 : Hid (Below w.heap.size w w1) := bto (bnew _ _) hb1
    have R1 : Hid (Blk w1 w.heap.size #[.int .i64 3, .string te, .string tx, .int .i64 nu] 67) := hid ((Blk.new _ _ _).later hb1)
    have d0 : ∀ x : Later w1, x.w'.cell? ⟨w.heap.size, 0, none⟩ = some (.int .i64 3) := Later.cells (R1.out.cell 0)
    have d1 : ∀ x : Later w1, x.w'.cell? ⟨w.heap.size, 1, none⟩ = some (.string te) := Later.cells (R1.out.cell 1)
    have d2 : ∀ x : Later w1, x.w'.cell? ⟨w.heap.size, 2, none⟩ = some (.string tx) := Later.cells (R1.out.cell 2)
    have d3 : ∀ x : Later w1, x.w'.cell? ⟨w.heap.size, 3, none⟩ = some (.int .i64 nu) := Later.cells (R1.out.cell 3)
    have hne := Later.there w1
    clear hb1
    go_wp2_with fail
    refine wp_region_later (by kernel_rfl) (by kernel_rfl) ?_
    repeat (go_big_quiet_step (fail))
    refine wpQuiet_enter (by rfl) (fun W => exec_invoke0 _ _ _ _ rfl rfl (invokeFlat3 _ W)) (by rintro _ ⟨x, rfl⟩; exact calls_later (flatL_any _ _ _ _ _)) ?_
    simp only [Act.put, List.setIfInBounds_toArray, List.set_cons_succ, List.set_cons_zero]
    repeat (go_big_quiet_step (fail))
    first
      | (refine wpQuiet_val (v := .bool true) (by rfl) (exec_eqlRec _ _ _ _ rfl rfl rfl HE.out) ?_; simp only [Act.put, List.setIfInBounds_toArray, List.set_cons_succ, List.set_cons_zero]; repeat (go_big_quiet_step (fail)))
      | skip
    refine wpQuiet_nil ?_
    rintro _ ⟨x, rfl⟩
    have BX : Hid (Below w.heap.size w x.w') := bto B1.out x.h
    go_wp2
    go_ret
    exact ⟨ret_bool E.out.symm, BX.out⟩

set_option maxRecDepth 100000 in
set_option maxHeartbeats 1000000 in
theorem isEnc_any (r : RecD) (w : World) (h1 : r.tenant.size ≤ 1000000000) (h2 : r.text.size ≤ 1000000000) :
    Calls Try.prog 48 #[recV r] w fun e w' => e = .returned (.bool (rcB r)) ∧ Below w.heap.size w w' := by
  obtain ⟨ki, te, tx, nu⟩ := r
  by_cases k1 : ki = 1
  · subst k1; exact isEnc1 te tx nu w h1 h2
  by_cases k2 : ki = 2
  · subst k2; exact isEnc2 te tx nu w h1 h2
  by_cases k3 : ki = 3
  · subst k3; exact isEnc3 te tx nu w h1 h2
  have HR : Hid (∀ W, Calls Try.prog 72 #[.agg #[.int .i64 ki, .string te, .string tx, .int .i64 nu]] W fun e w' => e = .returned (.tuple #[.nilIface, .bool false]) ∧ Below W.heap.size W w') := fun W => by
    have := recordOf_any ⟨ki, te, tx, nu⟩ W
    have e1 : knownV ⟨ki, te, tx, nu⟩ = .nilIface := by unfold knownV; simp [k1, k2, k3]
    have e2 : kindB ⟨ki, te, tx, nu⟩ = false := by unfold kindB; simp [k1, k2, k3]
    rw [e1, e2] at this
    exact this
  have E : Hid (rcB ⟨ki, te, tx, nu⟩ = false) := hid (rcB_f (fun hh => by rcases hh.2.2 with g | g | g; exact k1 g.1; exact k2 g.1; exact k3 g))
  unfold recV
  clear k1 k2 k3
  go_enter Try.func48, Try.ntmps48
  go_wp2_with fail
  refine (HR.out _).mono ?_
  rintro e w1 ⟨rfl, hb1⟩
  have B1 : Hid (Below w.heap.size w w1) := bto (bnew _ _) hb1
  have hne := Later.there w1
  clear hb1
  go_wp2_with fail
  refine wp_region_later (by kernel_rfl) (by kernel_rfl) ?_
  repeat (go_big_quiet_step (fail))
  refine wpQuiet_nil ?_
  rintro _ ⟨x, rfl⟩
  have BX : Hid (Below w.heap.size w x.w') := bto B1.out x.h
  go_wp2
  go_ret
  exact ⟨ret_bool E.out.symm, BX.out⟩
end Go.Proofs.Ytgpgacncmoiefaa
