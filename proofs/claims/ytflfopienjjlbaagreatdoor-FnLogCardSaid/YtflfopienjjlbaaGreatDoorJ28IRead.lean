import Derived.Test.YtflfopienjjlbaaGreatDoorProg
import Derived.Test.YtflfopienjjlbaaGreatDoorJ18Mark2
import Derived.Test.YtflfopienjjlbaaGreatDoorJ27QTail
import Derived.Test.YtflfopienjjlbaaGreatDoorJ01Drive
import Derived.Laws.OwnMore
import Derived.Tactics
import Derived.Test.YtflfopienjjlbaaGreatDoorJ13Ins2
import Derived.Maps.AppendAt
import Derived.Deep.AppendLies
namespace Go.Proofs.YtflfopienjjlbaaGreatDoor
open Go.RowKit

/-- A step of the writer's drive: what is not the drive's own lies on; a cut leaves the files' row where it was. -/
theorem stepK {w0 w : World} {B P D : Nat} {K K' : DiskD} {L : LogD} {v : Value} {x : Nat} (op : OpD) (h : WSt w0 w B P D K L) (hv : DriveAt w B D K.fs K.c K.k K.cr K.fl K.dn v) (ho : opB op = true) (hk : op.kind ≤ 4) (e : stepD K op = (K', x)) :
    Calls Tryz.prog 49 #[.pointer (some ⟨D, 0, none⟩), .agg #[.int .i64 op.kind, .string op.name, .string op.to, .string op.data, .int .i64 op.size]] w fun e w' =>
      e = .returned (errV x) ∧ x ≤ 6 ∧ WSt w0 w' B P D K' L ∧ KeepO w w' ∧ (op.kind = 4 → DriveAt w' B D K'.fs K'.c K'.k K'.cr K'.fl K'.dn v) := by
  obtain ⟨f1, f2, f3, f4, f5, f6, f7, _⟩ := files_of_disk h.valid
  have hop : btwB op.kind 1 6 = true := by simp only [opB, Bool.and_eq_true] at ho; exact ho.1.1
  have e' := e
  rw [stepD_ok h.valid ho] at e'
  simp only [Prod.mk.injEq] at e'
  obtain ⟨rfl, rfl⟩ := e'
  refine (step_any w B D K.fs K.c K.k K.cr K.fl K.dn v op ⟨hv, asc_of f1, f2, f5, f4, f6, f7⟩ hop).mono ?_
  rintro e w' ⟨rfl, hb, hko, v', hd, hkv⟩
  exact ⟨rfl, stepR_code _ _ _ _ _ _ _, ⟨h.pow, h.below.trans (hb.mono h.hB), h.hB, h.hP, hko hk P _ _ h.wr (by decide) (by decide), ⟨_, hd⟩, diskB_step h.valid ho hk⟩, hko hk, fun h4 => by
    obtain rfl := hkv h4
    exact hd⟩
theorem WSt.segAt {w0 w : World} {B P D : Nat} {K : DiskD} {L : LogD} {i : Nat} {a : Option Addr} {cap : Nat} {n : Int} (h : WSt w0 w B P D K L) (hv : DriveAt w B D K.fs K.c K.k K.cr K.fl K.dn (.slice a K.fs.length cap)) (hi : i < K.fs.length) (hn : K.fs[i].name = segS n) :
    Calls Tryz.prog 92 #[.pointer (some ⟨P, 0, none⟩), .int .i64 n] w fun e w' => ∃ b o, a = some ⟨b, o, none⟩ ∧ e = .returned (.pointer (some ⟨b, o + i * 3, none⟩)) ∧ Below w.heap.size w w' := by
  obtain ⟨f1, f2, f3, f4, f5, f6, f7, _⟩ := files_of_disk h.valid
  obtain ⟨a', cap', e, hf⟩ := hv.files
  simp only [Value.slice.injEq] at e
  obtain ⟨rfl, _, rfl⟩ := e
  exact segAt_any P D a cap i K.fs n w h.wr.cells.1 (lt_of_block h.wr) hv.cell4 (lt_of_block hv.blk) hf (asc_of f1) (by omega) h.tab hi hn

set_option maxRecDepth 100000 in
set_option maxHeartbeats 4000000 in
theorem mend_any {w0 w : World} {B P D : Nat} {K : DiskD} {L : LogD} {i : Nat} (h : WSt w0 w B P D K L) (hl1 : 1 ≤ L.last) (hl2 : L.last ≤ 999999) (hi : i < K.fs.length) (hn : K.fs[i].name = segS L.last) :
    Calls Tryz.prog 67 #[.pointer (some ⟨P, 0, none⟩)] w fun e w' =>
      e = .returned (errV (mendD K L.last L.size).2) ∧ (mendD K L.last L.size).2 ≤ 6 ∧ WSt w0 w' B P D (mendD K L.last L.size).1 L ∧ KeepO w w' := by
  obtain ⟨v, hv⟩ := h.drive
  obtain ⟨a, cap, rfl, _⟩ := hv.files
  have HSA := hid (h.segAt hv hi hn)
  have HW := hid h
  have HV := hid hv
  obtain ⟨c0, c1, c2, c3⟩ := h.wr.cells
  obtain ⟨f1, f2, f3, f4, f5, f6, f7, _⟩ := files_of_disk h.valid
  have hasc : Asc K.fs := asc_of f1
  have HFA : Hid (fileAt K.fs L.last = K.fs[i]) := fileAt_eq hasc hi hn
  have HN := hid hn
  have HIK : Hid (i < K.fs.length ∧ Asc K.fs ∧ 1 ≤ L.last ∧ L.last ≤ 999999) := ⟨hi, hasc, hl1, hl2⟩
  obtain ⟨⟨KM, xm⟩, hM⟩ : ∃ R, mendD K L.last L.size = R := ⟨_, rfl⟩
  have HM := hid hM
  rw [hM]
  clear h hv hn hl1 hl2 hM f1 f2 f3 f4 f5 f6 f7 hasc
  go_enter Tryz.func67, Tryz.ntmps67
  go_wp2_with fail
  refine HSA.out.mono ?_
  rintro e w1 ⟨b, o, rfl, rfl, hb1⟩
  have HW1 := hid (HW.out.later hb1)
  have HV1 := hid (HV.out.later hb1)
  have HK1 : Hid (KeepO w w1) := KeepO.of hb1
  obtain ⟨c0', c1', c2', c3'⟩ := HW1.out.wr.cells
  obtain ⟨a', cap', e, hf⟩ := HV1.out.files
  simp only [Value.slice.injEq] at e
  obtain ⟨rfl, _, rfl⟩ := e
  obtain ⟨b', o', eb, hbb, q0, q1, q2⟩ := hf.at hi
  simp only [Option.some.injEq, Addr.mk.injEq, and_true] at eb
  obtain ⟨rfl, rfl⟩ := eb
  rw [HN.out] at q0
  clear hb1 c0 c1 c2 c3 hf HW HV HSA
  obtain ⟨dt, hdt⟩ : ∃ d, K.fs[i].data = d := ⟨_, rfl⟩
  obtain ⟨sy, hsy⟩ : ∃ d, K.fs[i].synced = d := ⟨_, rfl⟩
  rw [hdt] at q1
  rw [hsy] at q2
  have HDS : Hid ((fileAt K.fs L.last).data = dt ∧ (fileAt K.fs L.last).synced = sy) := by show _ ∧ _; rw [HFA.out]; exact ⟨hdt, hsy⟩
  clear hdt hsy HFA
  obtain ⟨⟨KS, xs⟩, hS⟩ : ∃ R, stepD K (opSync L.last) = R := ⟨_, rfl⟩
  have HS := hid hS
  have HCS : Hid (∀ W, Below w1.heap.size w1 W → Calls Tryz.prog 49 #[.pointer (some ⟨D, 0, none⟩), .agg #[.int .i64 3, .string (segS L.last), .string ⟨#[]⟩, .string ⟨#[]⟩, .int .i64 0]] W fun e w' => e = .returned (errV xs) ∧ xs ≤ 6 ∧ WSt w0 w' B P D KS L ∧ KeepO w w' ∧ ((3 : Int) = 4 → DriveAt w' B D KS.fs KS.c KS.k KS.cr KS.fl KS.dn (.slice (some ⟨b, o, none⟩) K.fs.length cap))) := fun W hW => (stepK (opSync L.last) (HW1.out.later hW) (HV1.out.later hW) (opB_mk (by omega) HIK.out.2.2.1 HIK.out.2.2.2) (by show (3 : Int) ≤ 4; omega) hS).mono fun e w' ⟨h1, h2, h3, h4, h5⟩ => ⟨h1, h2, h3, (HK1.out.trans (KeepO.of hW)).trans h4, h5⟩
  obtain ⟨⟨KT, xt⟩, hT⟩ : ∃ R, stepD K (opTrunc L.last L.size) = R := ⟨_, rfl⟩
  have HT := hid hT
  have HCT : Hid (∀ W, Below w1.heap.size w1 W → Calls Tryz.prog 49 #[.pointer (some ⟨D, 0, none⟩), .agg #[.int .i64 4, .string (segS L.last), .string ⟨#[]⟩, .string ⟨#[]⟩, .int .i64 L.size]] W fun e w' => e = .returned (errV xt) ∧ xt ≤ 6 ∧ WSt w0 w' B P D KT L ∧ KeepO w w' ∧ ((4 : Int) = 4 → DriveAt w' B D KT.fs KT.c KT.k KT.cr KT.fl KT.dn (.slice (some ⟨b, o, none⟩) K.fs.length cap))) := fun W hW => (stepK (opTrunc L.last L.size) (HW1.out.later hW) (HV1.out.later hW) (opB_mk (by omega) HIK.out.2.2.1 HIK.out.2.2.2) (by show (4 : Int) ≤ 4; omega) hT).mono fun e w' ⟨h1, h2, h3, h4, h5⟩ => ⟨h1, h2, h3, (HK1.out.trans (KeepO.of hW)).trans h4, h5⟩
  have HTK : Hid (∃ h : i < KT.fs.length, KT.fs[i].name = segS L.last ∧ KT.fs.length = K.fs.length) := by
    have := trunc_keep (K := K) (z := L.size) HW1.out.valid (opB_mk (by omega) HIK.out.2.2.1 HIK.out.2.2.2) HIK.out.2.1 hi HN.out
    simp only [hT] at this
    exact this
  clear hS hT
  generalize hnm : segS L.last = nm at *
  have HNM := hid hnm
  clear hnm
  by_cases hz : L.size < (dt.size : Int)
  · go_wp2_with fail
    go_region
    go_wp2_with fail
    refine wp_region_quiet_tail 14 (by kernel_rfl) (by kernel_rfl) ?_
    simp only [List.take_succ_cons, List.take_zero, List.drop_succ_cons, List.drop_zero]
    have hnel : Nonempty Unit := ⟨()⟩
    repeat (go_big_quiet_step (fail))
    refine wpQuiet_nil ?_
    go_wp2_with fail
    refine (HCT.out _ ((Below.refl _ _).drew.drew)).mono ?_
    rintro e w4 ⟨rfl, hx6, hw4, hk4, hd4⟩
    have HW4 := hid hw4
    have HK4 := hid hk4
    have HV4 := hid (hd4 (by first | trivial | rfl))
    clear hw4 hk4 hd4 q0 q1 q2 c0' c1' c2' c3' HCT HCS HV1 HW1
    by_cases hx : xt = 0
    · subst hx
      have HMS : Hid (mendD K L.last L.size = syncD KT L.last) := by
        show _ = _
        unfold mendD
        rw [HDS.out.1, if_pos hz, HT.out]
        rfl
      obtain ⟨hiT, hnT, hlT⟩ := HTK.out
      obtain ⟨f1, f2, f3, f4, f5, f6, f7, _⟩ := files_of_disk HW4.out.valid
      have hasT : Asc KT.fs := asc_of f1
      have HFA : Hid (fileAt KT.fs L.last = KT.fs[i]) := fileAt_eq hasT hiT (by rw [hnT, HNM.out])
      obtain ⟨c0, c1, c2, c3⟩ := HW4.out.wr.cells
      obtain ⟨a', cap', e, hf⟩ := HV4.out.files
      simp only [Value.slice.injEq] at e
      obtain ⟨rfl, _, rfl⟩ := e
      obtain ⟨b', o', eb, hbb4, q0, q1, q2⟩ := hf.at hiT
      simp only [Option.some.injEq, Addr.mk.injEq, and_true] at eb
      obtain ⟨rfl, rfl⟩ := eb
      rw [hnT] at q0
      obtain ⟨d4, hd4⟩ : ∃ d, KT.fs[i].data = d := ⟨_, rfl⟩
      obtain ⟨s4, hs4⟩ : ∃ d, KT.fs[i].synced = d := ⟨_, rfl⟩
      rw [hd4] at q1
      rw [hs4] at q2
      have HD4 : Hid ((fileAt KT.fs L.last).data = d4 ∧ (fileAt KT.fs L.last).synced = s4) := by show _ ∧ _; rw [HFA.out]; exact ⟨hd4, hs4⟩
      obtain ⟨⟨KU, xu⟩, hU⟩ : ∃ R, stepD KT (opSync L.last) = R := ⟨_, rfl⟩
      have HU := hid hU
      have HCU : Hid (∀ W, Below w4.heap.size w4 W → Calls Tryz.prog 49 #[.pointer (some ⟨D, 0, none⟩), .agg #[.int .i64 3, .string nm, .string ⟨#[]⟩, .string ⟨#[]⟩, .int .i64 0]] W fun e w' => e = .returned (errV xu) ∧ xu ≤ 6 ∧ WSt w0 w' B P D KU L ∧ KeepO w w') := fun W hW => by
        have h := stepK (opSync L.last) (HW4.out.later hW) (HV4.out.later hW) (opB_mk (by omega) HIK.out.2.2.1 HIK.out.2.2.2) (by show (3 : Int) ≤ 4; omega) hU
        unfold opSync at h
        rw [HNM.out] at h
        exact h.mono fun e w' ⟨h1, h2, h3, h4, h5⟩ => ⟨h1, h2, h3, (HK4.out.trans (KeepO.of hW)).trans h4⟩
      clear hd4 hs4 hU hf hnT hlT HFA f1 f2 f3 f4 f5 f6 f7 hasT HTK
      simp only [errV]
      by_cases hy : s4 < (d4.size : Int)
      · have HE : Hid ((KM, xm) = (KU, xu)) := by
          show _ = _
          rw [← HM.out, HMS.out]
          unfold syncD
          rw [HD4.out.1, HD4.out.2, if_pos hy, HU.out]
        go_wp2_with fail
        go_region
        go_wp2_with fail
        refine wp_region_quiet_tail 9 (by kernel_rfl) (by kernel_rfl) ?_
        simp only [List.take_succ_cons, List.take_zero, List.drop_succ_cons, List.drop_zero]
        have hnel : Nonempty Unit := ⟨()⟩
        repeat (go_big_quiet_step (fail))
        refine wpQuiet_nil ?_
        go_wp2_with (first | (go_at_call 49; refine (HCU.out _ ((Below.refl _ _).drew.drew)).mono ?_; rintro e w5 ⟨rfl, hx6', hw5, hk5⟩))
        go_ret
        have hE := HE.out
        simp only [Prod.mk.injEq] at hE
        obtain ⟨rfl, rfl⟩ := hE
        exact ⟨rfl, hx6', hw5, hk5⟩
      · have HE : Hid ((KM, xm) = (KT, 0)) := by
          show _ = _
          rw [← HM.out, HMS.out]
          unfold syncD
          rw [HD4.out.1, HD4.out.2, if_neg hy]
        go_wp2_with fail
        go_region
        go_wp2
        go_ret
        have hE := HE.out
        simp only [Prod.mk.injEq] at hE
        obtain ⟨rfl, rfl⟩ := hE
        exact ⟨rfl, by omega, HW4.out.later ((Below.refl _ _).drew), HK4.out.trans (KeepO.of (Below.refl _ _).drew)⟩
    · have HE : Hid ((KM, xm) = (KT, xt)) := by
        show _ = _
        rw [← HM.out]
        unfold mendD
        rw [HDS.out.1, if_pos hz, HT.out, if_pos hx]
      obtain ⟨tx, htx⟩ := errV_iface hx hx6
      have HTX := hid htx
      rw [htx]
      clear htx
      go_wp2
      go_ret
      have hE := HE.out
      simp only [Prod.mk.injEq] at hE
      obtain ⟨rfl, rfl⟩ := hE
      exact ⟨by rw [HTX.out]; rfl, hx6, HW4.out, HK4.out⟩
  · have HMS : Hid (mendD K L.last L.size = syncD K L.last) := by show _ = _; unfold mendD; rw [HDS.out.1, if_neg hz]
    go_wp2_with fail
    go_region
    by_cases hy : sy < (dt.size : Int)
    · have HE : Hid ((KM, xm) = (KS, xs)) := by
        show _ = _
        rw [← HM.out, HMS.out]
        unfold syncD
        rw [HDS.out.1, HDS.out.2, if_pos hy, HS.out]
      go_wp2_with fail
      go_region
      go_wp2_with fail
      refine wp_region_quiet_tail 9 (by kernel_rfl) (by kernel_rfl) ?_
      simp only [List.take_succ_cons, List.take_zero, List.drop_succ_cons, List.drop_zero]
      have hnel : Nonempty Unit := ⟨()⟩
      repeat (go_big_quiet_step (fail))
      refine wpQuiet_nil ?_
      go_wp2_with (first | (go_at_call 49; refine (HCS.out _ ((Below.refl _ _).drew.drew.drew)).mono ?_; rintro e w4 ⟨rfl, hx6, hw4, hk4, _⟩))
      go_ret
      have hE := HE.out
      simp only [Prod.mk.injEq] at hE
      obtain ⟨rfl, rfl⟩ := hE
      exact ⟨rfl, hx6, hw4, hk4⟩
    · have HE : Hid ((KM, xm) = (K, 0)) := by
        show _ = _
        rw [← HM.out, HMS.out]
        unfold syncD
        rw [HDS.out.1, HDS.out.2, if_neg hy]
      go_wp2_with fail
      go_region
      go_wp2
      go_ret
      have hE := HE.out
      simp only [Prod.mk.injEq] at hE
      obtain ⟨rfl, rfl⟩ := hE
      exact ⟨rfl, by omega, HW1.out.later ((Below.refl _ _).drew.drew), HK1.out.trans (KeepO.of (Below.refl _ _).drew.drew)⟩
end Go.Proofs.YtflfopienjjlbaaGreatDoor

namespace Go.Proofs.YtflfopienjjlbaaGreatDoor
open Go.RowKit

/-- Nothing is appended, whatever the address and the cap of what is empty. -/
theorem run_append_empty {P : Program} {w : World} (base : Nat) (t ty e : TypeId) (i : TypeInfo) (size : Nat) (ht : P.underlying t = some (.slice e)) (hi : P.info? e = some i)
    (v : Value) (n : Nat) (xs : List Value) (hown : w.ownsRow base e size v n xs) (a2 : Option Addr) (c2 : Nat) :
    (Builtin.append_ #[t, t] ty #[v, .slice a2 0 c2]).run P w = .ok v w := by
  have hl : ∀ ad : Addr, (loadCells ad 0).run P w = .ok #[] w := fun ad => by
    simp [loadCells, loadCellsFrom]
  rcases hown.2 with ⟨rfl, rfl⟩ | ⟨g, cap, cur, rfl, _, _, hnc, _⟩
  · cases a2 <;> simp [Builtin.append_, run_underlying ht, sizeOf, typeInfo, hi, Builtin.lenOf, Builtin.firstCells, hl]
  · cases a2 <;> simp [Builtin.append_, run_underlying ht, sizeOf, typeInfo, hi, Builtin.lenOf, Builtin.firstCells, hnc, storeCells, hl]
theorem wpList_append_empty {P : Program} {w : World} {ops : Array Oper} {rest : List Oper} {o : Oper} {a : Act} {Q : Exit → Act → World → Prop} (hgd : o.guard = none) (s x : Operand) (t : TypeId)
    (ho : o.op = .call { callee := .builtin .append, args := #[s, x], argTypes := #[t, t] })
    (base : Nat) (e : TypeId) (i : TypeInfo) (size : Nat) (ht : P.underlying t = some (.slice e)) (hi : P.info? e = some i)
    (v : Value) (n : Nat) (xs : List Value) (hs : a.eval s = v) (hown : w.ownsRow base e size v n xs) (a2 : Option Addr) (c2 : Nat) (hx : a.eval x = .slice a2 0 c2)
    (h : wpList P ops Q rest (a.put o.dst v) w) : wpList P ops Q (o :: rest) a w := by
  refine wpList_plain hgd fun K hK => ?_
  have hrun := run_append_empty (P := P) (w := w) base t o.type e i size ht hi v n xs hown a2 c2
  unfold Oper.wp
  simp [execOp, ho, resolve, invoke, builtin, hs, hx, hrun, Result.andThen]
  exact hK _ _ h
end Go.Proofs.YtflfopienjjlbaaGreatDoor

namespace Go.Proofs.YtflfopienjjlbaaGreatDoor
open Go.RowKit

theorem row_from3 {w : World} {B : Nat} {e : TypeId} {size : Nat} {v : Value} {n : Nat} {xs : List Value} (h : w.ownsRow B e size v n xs) : ∀ g, v.ownBlock = some g → B ≤ g := by
  intro q hq
  rcases h.2 with ⟨he, _⟩ | ⟨g, cap, cur, he, hB, _⟩
  · rw [he] at hq; simp [Value.ownBlock] at hq
  · rw [he] at hq; simp [Value.ownBlock] at hq; omega
theorem add_at (g o q : Nat) : (⟨g, o, none⟩ : Addr).add q = ⟨g, o + q, none⟩ := by
  unfold Addr.add
  split <;> simp_all
theorem grow_facts {w wr w2 w5 : World} {P D cv : Nat} {n : Nat} {av : Option Addr} {xs : List Value} {first last : Int} {sz : Nat} (hsw : w.heap.size ≤ wr.heap.size) (hPl : P < w.heap.size) (hB2 : Below wr.heap.size wr w2) (hrow : w2.ownsRow w.heap.size 9 1 (.slice av n cv) n xs) (hg : w2.grownBy w5 (Value.slice av n cv).ownBlock)
    (hbl : Blk wr P #[.pointer (some ⟨D, 0, none⟩), .int .i64 first, .int .i64 last, .int .i64 (sz : Nat)] 68) :
    Below w.heap.size wr w5 ∧ Blk w5 P #[.pointer (some ⟨D, 0, none⟩), .int .i64 first, .int .i64 last, .int .i64 (sz : Nat)] 68 ∧ w5.cell? ⟨P, 3, none⟩ = some (.int .i64 (sz : Nat)) ∧ w5.frozen? ⟨P, 3, none⟩ = false := by
  have h1 : Below w.heap.size wr w5 := (hB2.mono hsw).grown hg (Nat.le_trans hsw hB2.size) (fun q hq => row_from3 hrow q hq)
  have h2 : Blk w5 P #[.pointer (some ⟨D, 0, none⟩), .int .i64 first, .int .i64 last, .int .i64 (sz : Nat)] 68 := (h1.block P hPl).trans hbl
  exact ⟨h1, h2, by rw [h2.cell]; rfl, h2.free 3⟩
theorem but_below {P : Nat} {w wr w5 : World} (h : But P w wr) (k : Below w.heap.size wr w5) : But P w w5 :=
  ⟨k.os.trans h.os, k.tape.trans h.tape, k.output.trans h.output, Nat.le_trans h.size k.size, fun q hq hne => (k.block q hq).trans (h.block q hq hne)⟩
theorem FilesIn.butA {w w' : World} {P : Nat} {a : Option Addr} {fs : List FileD} (h : FilesIn w a fs) (hb : But P w w') (hP : ∀ b o, a = some ⟨b, o, none⟩ → b ≠ P) : FilesIn w' a fs := by
  rcases h with h | ⟨b, o, rfl, hlt, h⟩
  · exact Or.inl h
  · exact FilesIn.but (Or.inr ⟨b, o, rfl, hlt, h⟩) hb (hP b o rfl)

set_option maxRecDepth 100000 in
set_option maxHeartbeats 2000000 in
theorem readAll_any (P D : Nat) (a : Option Addr) (cap cnt : Nat) (fs : List FileD) (first : Int) (w : World) (hPb : Blk w P #[.pointer (some ⟨D, 0, none⟩), .int .i64 first, .int .i64 (first + cnt), .int .i64 0] 68) (hD : w.cell? ⟨D, 4, none⟩ = some (.slice a fs.length cap)) (hDl : D < w.heap.size) (hDP : D ≠ P) (hf : FilesIn w a fs)
    (hfP : ∀ b o, a = some ⟨b, o, none⟩ → b ≠ P) (hasc : Asc fs) (hlen : fs.length ≤ 1048576) (hPg : ∀ W, But P w W → PowTab W) (hcnt : cnt < 1000) (hfirst : 1 ≤ first) (hf2 : first ≤ 999999) (hix : ∀ j : Nat, j ≤ cnt → ∃ i, ∃ h : i < fs.length, fs[i].name = segS (first + j)) (hsz : ∀ n, (datAt fs n).size ≤ 1000000000) :
    Calls Tryz.prog 66 #[.pointer (some ⟨P, 0, none⟩)] w fun e w' => ReadPost P D first (first + cnt) w (readR fs (first + cnt) (cnt + 1) first [] 0) e w' := by
  have hPl : P < w.heap.size := lt_of_block hPb
  have HF : Hid (FilesIn w a fs) := hf
  have HFP : Hid (∀ b o, a = some ⟨b, o, none⟩ → b ≠ P) := hfP
  have HA : Hid (Asc fs) := hasc
  have HPG : Hid (∀ W, But P w W → PowTab W) := hPg
  have HIX : Hid (∀ j : Nat, j ≤ cnt → ∃ i, ∃ h : i < fs.length, fs[i].name = segS (first + j)) := hix
  have HSZ : Hid (∀ n, (datAt fs n).size ≤ 1000000000) := hsz
  have HD : Hid (w.cell? ⟨D, 4, none⟩ = some (.slice a fs.length cap)) := hD
  obtain ⟨ti, hti, hz0, hz1, hz2⟩ := info_str
  have HI : Hid (Tryz.prog.info? 9 = some ti) := hti
  have c0 : w.cell? ⟨P, 1, none⟩ = some (.int .i64 first) := by rw [hPb.cell]; rfl
  have HPB : Hid (Blk w P #[.pointer (some ⟨D, 0, none⟩), .int .i64 first, .int .i64 (first + cnt), .int .i64 0] 68) := hPb
  have HG : ∃ R, Hid (readR fs (first + cnt) (cnt + 1) first [] 0 = R) := ⟨_, rfl⟩
  obtain ⟨R, HR0⟩ := HG
  rw [HR0.out]
  clear hti hf hfP hasc hPg hix hsz hD hPb
  go_enter Tryz.func66, Tryz.ntmps66
  go_wp2
  go_loopw [4, 5] (fun out i wr => ∃ (j sz : Nat) (ys : List ByteArray) (av : Option Addr) (cv : Nat), j ≤ cnt + 1 ∧ ys.length ≤ j * 1000000001 ∧ Hid (readR fs (first + cnt) (cnt + 1 - j) (first + j) ys sz = R) ∧ i = .int .i64 (first + j) ∧ out = .slice av ys.length cv ∧ Hid (wr.ownsRow w.heap.size 9 1 (.slice av ys.length cv) ys.length (ys.map Value.string)) ∧ Hid (But P w wr) ∧ Hid (Blk wr P #[.pointer (some ⟨D, 0, none⟩), .int .i64 first, .int .i64 (first + cnt), .int .i64 (sz : Nat)] 68)) (fun _ i _ => (first + cnt + 1 - intOf i).toNat)
  case atStart =>
    exact ⟨0, 0, [], none, 0, by omega, by simp, by simpa using HR0, by simp, rfl, ⟨rfl, Or.inl ⟨rfl, rfl⟩⟩, But.refl _ _, HPB.out⟩
  case round =>
    obtain ⟨j, sz, ys, av, cv, hj, hy, HR, rfl, rfl, HROW, HBU, HBL⟩ := hrel
    have d0 : wr.cell? ⟨P, 0, none⟩ = some (.pointer (some ⟨D, 0, none⟩)) := by rw [HBL.out.cell]; rfl
    have d2 : wr.cell? ⟨P, 2, none⟩ = some (.int .i64 (first + cnt)) := by rw [HBL.out.cell]; rfl
    have hsw : w.heap.size ≤ wr.heap.size := HBU.out.size
    clear c0
    by_cases hlt : j ≤ cnt
    · obtain ⟨i, hi, hnm⟩ := HIX.out j hlt
      have HFw : Hid (FilesIn wr a fs) := HF.out.butA HBU.out HFP.out
      have HDw : Hid (wr.cell? ⟨D, 4, none⟩ = some (.slice a fs.length cap)) := (World.cell?_of_block (HBU.out.block D hDl hDP)).trans HD.out
      have HC1 : Hid (Calls Tryz.prog 92 #[.pointer (some ⟨P, 0, none⟩), .int .i64 (first + j)] wr fun e w' => ∃ b o, a = some ⟨b, o, none⟩ ∧ e = .returned (.pointer (some ⟨b, o + i * 3, none⟩)) ∧ Below wr.heap.size wr w') := segAt_any P D a cap i fs (first + j) wr d0 (by omega) HDw.out (by omega) HFw.out HA.out hlen (HPG.out wr HBU.out) hi hnm
      have hdt : datAt fs (first + j) = fs[i].data := datAt_eq HA.out hi hnm
      have hds : fs[i].data.size ≤ 1000000000 := by rw [← hdt]; exact HSZ.out _
      go_wp2_with fail
      refine HC1.out.mono ?_
      rintro e w1 ⟨b, o, rfl, rfl, hb1⟩
      obtain ⟨b', o', eb, hbb, q0, q1, q2⟩ := (HFw.out.later hb1).at hi
      simp only [Option.some.injEq, Addr.mk.injEq, and_true] at eb
      obtain ⟨rfl, rfl⟩ := eb
      have HB1 : Hid (Below wr.heap.size wr w1) := hb1
      have hs1 : wr.heap.size ≤ w1.heap.size := hb1.size
      have HRR : Hid (readR fs (first + cnt) (cnt + 1 - j) (first + j) ys sz = if (scanV fs[i].data).2 < fs[i].data.size ∧ first + (j : Int) < first + cnt then none else readR fs (first + cnt) (cnt - j) (first + j + 1) (ys ++ (scanV fs[i].data).1) (scanV fs[i].data).2) := by
        show _ = _
        rw [show cnt + 1 - j = (cnt - j) + 1 by omega, readR, hdt]
      clear hb1 HC1 HFw HDw hnm hdt q0 q2 d0
      generalize fs[i].data = dt at *
      have hvl := scanV_len dt
      have HSC : Hid (∀ W, Calls Tryz.prog 19 #[.string dt] W fun e w' => ∃ a cap, e = .returned (.tuple #[.slice a (scanV dt).1.length cap, .int .i64 ((scanV dt).2 : Nat)]) ∧ StrsOwn w' W.heap.size a (scanV dt).1 ∧ Below W.heap.size W w') := fun W => implScan_any dt W hds
      generalize scanV dt = V at *
      obtain ⟨ps, vz⟩ := V
      simp only at hvl HSC HRR
      go_wp2_with fail
      refine (HSC.out _).mono ?_
      rintro e w2 ⟨a2, c2, rfl, hst, hb2⟩
      have HB2 : Hid (Below wr.heap.size wr w2) := bto HB1.out hb2
      have hs2 : wr.heap.size ≤ w2.heap.size := HB2.out.size
      have HST : Hid (StrsOwn w2 w1.heap.size a2 ps) := hst
      have HBL2 := HBL.out.later HB2.out
      have d2' : w2.cell? ⟨P, 2, none⟩ = some (.int .i64 (first + cnt)) := by rw [HBL2.cell]; rfl
      clear hst hb2 HSC q1 d2 HBL2
      by_cases ht : vz < dt.size
      · by_cases hl : j < cnt
        · have HN : Hid (R = none) := by
            show _ = _
            rw [← HR.out, HRR.out, if_pos ⟨ht, by omega⟩]
          go_wp2
          go_ret2
          refine ⟨HBU.out.trans (But.of HB2.out), ?_⟩
          rw [HN.out]
          exact ⟨rfl, sz, HBL.out.later HB2.out⟩
        · have HN : Hid (readR fs (first + cnt) (cnt + 1 - (j + 1)) (first + ((j + 1 : Nat) : Int)) (ys ++ ps) vz = R) := by
            show _ = _
            rw [← HR.out, HRR.out, if_neg (fun h => hl (by omega)), show cnt + 1 - (j + 1) = cnt - j by omega, show first + ((j + 1 : Nat) : Int) = first + j + 1 by omega]
          have HROW2 : Hid (w2.ownsRow w.heap.size 9 1 (.slice av ys.length cv) ys.length (ys.map Value.string)) := row_later HROW.out HB2.out
          have hbb2 : w.heap.size ≤ w2.heap.size := by omega
          by_cases hm : 0 < ps.length
          · rcases HST.out with hps | ⟨g, o2, cur, t2, ha2, hgB, hgb, hcl⟩
            · rw [hps] at hm; simp at hm
            · subst ha2
              have HNEWS : Hid (∀ q u, (ps.map Value.string)[q]? = some u → w2.cell? ((⟨g, o2, none⟩ : Addr).add q) = some u) := fun q u hq => by
                rw [List.getElem?_map] at hq
                obtain ⟨x, hx, rfl⟩ := Option.map_eq_some_iff.1 hq
                obtain ⟨hlt', rfl⟩ := List.getElem?_eq_some_iff.1 hx
                rw [add_at]; exact hcl q hlt'
              clear hcl hgb hgB
              go_wp2_with (at_builtin; refine wpList_append_lies _ rfl _ _ _ rfl w.heap.size 9 ti _ 1 16 Tryz.underlying31 HI.out hz0 hz1 hz2 rfl (by omega) (.slice av ys.length cv) ys.length (ys.map Value.string) rfl HROW2.out ⟨g, o2, none⟩ ps.length c2 (ps.map Value.string) rfl (by simp) HNEWS.out (by simp [Value.oneCell']) hm (by simp [maxLen]; omega) (by omega) hbb2 w2.heap.size rfl ?_; intro g5 cap5 w5 hown5 hgrow5 hat5 hlt5; have HH := grow_facts hsw hPl HB2.out HROW2.out hgrow5 HBL.out; have HB5 : Hid (Below w.heap.size wr w5) := HH.1; have HBL5 : Hid (Blk w5 P #[.pointer (some ⟨D, 0, none⟩), .int .i64 first, .int .i64 (first + cnt), .int .i64 (sz : Nat)] 68) := HH.2.1; have d3 := HH.2.2.1; have f3 := HH.2.2.2; have HO5 : Hid (w5.ownsRow w.heap.size 9 1 (.slice (some ⟨g5, 0, none⟩) (ys.length + ps.length) cap5) (ys.length + ps.length) (ys.map Value.string ++ ps.map Value.string)) := hown5; clear HH hown5 hgrow5 hat5)
              have h6 := HO5.out
              rw [← List.map_append, ← List.length_append] at h6
              refine ⟨⟨j + 1, vz, ys ++ ps, some ⟨g5, 0, none⟩, cap5, by omega, by rw [List.length_append]; omega, HN, by go_num, by rw [List.length_append], row_set_below h6 (p := ⟨P, 3, none⟩) hPl _, (but_below HBU.out HB5.out).setCell _ _, HBL5.out.set 3 _⟩, by simp [intOf]; omega⟩
          · obtain rfl : ps = [] := List.length_eq_zero_iff.1 (by omega)
            have HBL2 : Hid (Blk w2 P #[.pointer (some ⟨D, 0, none⟩), .int .i64 first, .int .i64 (first + cnt), .int .i64 (sz : Nat)] 68) := HBL.out.later HB2.out
            have d3 : w2.cell? ⟨P, 3, none⟩ = some (.int .i64 (sz : Nat)) := by rw [HBL2.out.cell]; rfl
            have f3 := HBL2.out.free 3
            have HN2 : Hid (readR fs (first + cnt) (cnt + 1 - (j + 1)) (first + ((j + 1 : Nat) : Int)) ys vz = R) := by
              have h := HN.out
              rw [List.append_nil] at h
              exact h
            clear hm HN
            go_wp2_with (at_builtin; refine wpList_append_empty rfl _ _ _ rfl w.heap.size 9 ti 1 Tryz.underlying31 HI.out (.slice av ys.length cv) ys.length (ys.map Value.string) rfl HROW2.out a2 c2 rfl ?_)
            refine ⟨⟨j + 1, vz, ys, av, cv, by omega, Nat.le_trans hy (Nat.mul_le_mul_right _ (Nat.le_succ _)), HN2, by go_num, rfl, row_set_below HROW2.out (p := ⟨P, 3, none⟩) hPl _, (HBU.out.trans (But.of HB2.out)).setCell _ _, HBL2.out.set 3 _⟩, by simp [intOf]; omega⟩
      · have HN : Hid (readR fs (first + cnt) (cnt + 1 - (j + 1)) (first + ((j + 1 : Nat) : Int)) (ys ++ ps) vz = R) := by
          show _ = _
          rw [← HR.out, HRR.out, if_neg (fun h => ht h.1), show cnt + 1 - (j + 1) = cnt - j by omega, show first + ((j + 1 : Nat) : Int) = first + j + 1 by omega]
        have HROW2 : Hid (w2.ownsRow w.heap.size 9 1 (.slice av ys.length cv) ys.length (ys.map Value.string)) := row_later HROW.out HB2.out
        have hbb2 : w.heap.size ≤ w2.heap.size := by omega
        by_cases hm : 0 < ps.length
        · rcases HST.out with hps | ⟨g, o2, cur, t2, ha2, hgB, hgb, hcl⟩
          · rw [hps] at hm; simp at hm
          · subst ha2
            have HNEWS : Hid (∀ q u, (ps.map Value.string)[q]? = some u → w2.cell? ((⟨g, o2, none⟩ : Addr).add q) = some u) := fun q u hq => by
              rw [List.getElem?_map] at hq
              obtain ⟨x, hx, rfl⟩ := Option.map_eq_some_iff.1 hq
              obtain ⟨hlt', rfl⟩ := List.getElem?_eq_some_iff.1 hx
              rw [add_at]; exact hcl q hlt'
            clear hcl hgb hgB
            go_wp2_with (at_builtin; refine wpList_append_lies _ rfl _ _ _ rfl w.heap.size 9 ti _ 1 16 Tryz.underlying31 HI.out hz0 hz1 hz2 rfl (by omega) (.slice av ys.length cv) ys.length (ys.map Value.string) rfl HROW2.out ⟨g, o2, none⟩ ps.length c2 (ps.map Value.string) rfl (by simp) HNEWS.out (by simp [Value.oneCell']) hm (by simp [maxLen]; omega) (by omega) hbb2 w2.heap.size rfl ?_; intro g5 cap5 w5 hown5 hgrow5 hat5 hlt5; have HH := grow_facts hsw hPl HB2.out HROW2.out hgrow5 HBL.out; have HB5 : Hid (Below w.heap.size wr w5) := HH.1; have HBL5 : Hid (Blk w5 P #[.pointer (some ⟨D, 0, none⟩), .int .i64 first, .int .i64 (first + cnt), .int .i64 (sz : Nat)] 68) := HH.2.1; have d3 := HH.2.2.1; have f3 := HH.2.2.2; have HO5 : Hid (w5.ownsRow w.heap.size 9 1 (.slice (some ⟨g5, 0, none⟩) (ys.length + ps.length) cap5) (ys.length + ps.length) (ys.map Value.string ++ ps.map Value.string)) := hown5; clear HH hown5 hgrow5 hat5)
            have h6 := HO5.out
            rw [← List.map_append, ← List.length_append] at h6
            refine ⟨⟨j + 1, vz, ys ++ ps, some ⟨g5, 0, none⟩, cap5, by omega, by rw [List.length_append]; omega, HN, by go_num, by rw [List.length_append], row_set_below h6 (p := ⟨P, 3, none⟩) hPl _, (but_below HBU.out HB5.out).setCell _ _, HBL5.out.set 3 _⟩, by simp [intOf]; omega⟩
        · obtain rfl : ps = [] := List.length_eq_zero_iff.1 (by omega)
          have HBL2 : Hid (Blk w2 P #[.pointer (some ⟨D, 0, none⟩), .int .i64 first, .int .i64 (first + cnt), .int .i64 (sz : Nat)] 68) := HBL.out.later HB2.out
          have d3 : w2.cell? ⟨P, 3, none⟩ = some (.int .i64 (sz : Nat)) := by rw [HBL2.out.cell]; rfl
          have f3 := HBL2.out.free 3
          have HN2 : Hid (readR fs (first + cnt) (cnt + 1 - (j + 1)) (first + ((j + 1 : Nat) : Int)) ys vz = R) := by
            have h := HN.out
            rw [List.append_nil] at h
            exact h
          clear hm HN
          go_wp2_with (at_builtin; refine wpList_append_empty rfl _ _ _ rfl w.heap.size 9 ti 1 Tryz.underlying31 HI.out (.slice av ys.length cv) ys.length (ys.map Value.string) rfl HROW2.out a2 c2 rfl ?_)
          refine ⟨⟨j + 1, vz, ys, av, cv, by omega, Nat.le_trans hy (Nat.mul_le_mul_right _ (Nat.le_succ _)), HN2, by go_num, rfl, row_set_below HROW2.out (p := ⟨P, 3, none⟩) hPl _, (HBU.out.trans (But.of HB2.out)).setCell _ _, HBL2.out.set 3 _⟩, by simp [intOf]; omega⟩
    · have e : j = cnt + 1 := by omega
      have HN : Hid (R = some (ys, sz)) := by
        show _ = _
        rw [← HR.out, e, Nat.sub_self, readR]
      go_wp2
      go_ret2
      refine ⟨HBU.out, ?_⟩
      rw [HN.out]
      exact ⟨⟨av, cv, rfl, HROW.out⟩, HBL.out⟩
end Go.Proofs.YtflfopienjjlbaaGreatDoor

