import Derived.Test.YtboofidegpnkaaaGreatDoorProg
import Derived.Test.YtboofidegpnkaaaGreatDoorJ07Code
import Derived.Test.YtboofidegpnkaaaGreatDoorJ05Cells
namespace Go.Proofs.YtboofidegpnkaaaGreatDoor
open Go.RowKit
def chargeR (k cr fl : Int) (dn : Bool) : Nat × Int × Bool :=
  if dn = true then (1, k, true) else if k = 1000000000000000 then (2, k, false) else if cr ≠ 0 ∧ k + 1 = cr then (1, k + 1, true) else if fl ≠ 0 ∧ k + 1 = fl then (2, k + 1, false) else (0, k + 1, false)
set_option maxRecDepth 100000 in
set_option maxHeartbeats 1000000 in
theorem charge_any (D : Nat) (t : TypeId) (v4 v5 : Value) (k cr fl : Int) (dn : Bool) (w : World) (hb : Blk w D #[.int .i64 k, .int .i64 cr, .int .i64 fl, .bool dn, v4, v5] t) (hk0 : 0 ≤ k) (hk1 : k ≤ 1000000000000000) :
    Calls Tryz.prog 59 #[.pointer (some ⟨D, 0, none⟩)] w fun e w' => e = .returned (errV (chargeR k cr fl dn).1) ∧ But D w w' ∧ Blk w' D #[.int .i64 (chargeR k cr fl dn).2.1, .int .i64 cr, .int .i64 fl, .bool (chargeR k cr fl dn).2.2, v4, v5] t := by
  have c0 := hb.cell 0
  have c3 := hb.cell 3
  simp only [List.getElem?_toArray, List.getElem?_cons_zero, List.getElem?_cons_succ] at c0 c3
  have f0 := hb.free 0
  cases dn with
  | true =>
    have HB : Hid (Blk w D #[.int .i64 k, .int .i64 cr, .int .i64 fl, .bool true, v4, v5] t) := hb
    clear hb
    go_enter Tryz.func59, Tryz.ntmps59
    go_wp2
    go_ret
    exact ⟨rfl, But.refl _ _, HB.out⟩
  | false =>
    by_cases hm : k = 1000000000000000
    · subst hm
      have HB : Hid (Blk w D #[.int .i64 1000000000000000, .int .i64 cr, .int .i64 fl, .bool false, v4, v5] t) := hb
      clear hb
      go_enter Tryz.func59, Tryz.ntmps59
      go_wp2
      go_ret
      exact ⟨rfl, But.refl _ _, HB.out⟩
    · have hb1 := hb.set 0 (.int .i64 (k + 1))
      have HB : Hid (Blk w D #[.int .i64 k, .int .i64 cr, .int .i64 fl, .bool false, v4, v5] t) := hb
      have HB1 : Hid (Blk (w.setCell ⟨D, 0, none⟩ (.int .i64 (k + 1))) D #[.int .i64 (k + 1), .int .i64 cr, .int .i64 fl, .bool false, v4, v5] t) := by show Blk _ _ _ _; simpa using hb1
      clear hb hb1
      have d0 := HB1.out.cell 0
      have d1 := HB1.out.cell 1
      have d2 := HB1.out.cell 2
      have d3 := HB1.out.cell 3
      simp only [List.getElem?_toArray, List.getElem?_cons_zero, List.getElem?_cons_succ] at d0 d1 d2 d3
      have e3 := HB1.out.free 3
      have HBut : Hid (But D w (w.setCell ⟨D, 0, none⟩ (.int .i64 (k + 1)))) := (But.refl _ _).setCell _ _
      have hw1 : IntKind.i64.wrap (k + 1) = k + 1 := by rw [IntKind.wrap_i64]; omega
      by_cases hc : cr = 0
      · subst hc
        by_cases hf : fl = 0
        · subst hf
          have E : Hid (chargeR k 0 0 false = (0, k + 1, false)) := by show _ = _; simp [chargeR, hm]
          go_enter Tryz.func59, Tryz.ntmps59
          go_wp2_with fail
          go_quiet (fail)
          go_wp2_with fail
          go_quiet (fail)
          go_wp2
          go_ret
          rw [E.out]
          first | exact ⟨rfl, HBut.out.trans (But.of (below_drewN (below_drewN (Below.refl _ _) _) _)), HB1.out.later (below_drewN (below_drewN (Below.refl _ _) _) _)⟩ | exact ⟨rfl, HBut.out.trans (But.of (below_drewN (Below.refl _ _) _)), HB1.out.later (below_drewN (Below.refl _ _) _)⟩
        · have hf1 : decide (fl = 0) = false := by simpa using hf
          by_cases hf2 : k + 1 = fl
          · subst hf2
            have E : Hid (chargeR k 0 (k + 1) false = (2, k + 1, false)) := by show _ = _; simp [chargeR, hm, hf]
            go_enter Tryz.func59, Tryz.ntmps59
            go_wp2_with fail
            go_quiet (fail)
            go_wp2_with fail
            go_quiet (fail)
            go_wp2
            go_ret
            rw [E.out]
            first | exact ⟨rfl, HBut.out.trans (But.of (below_drewN (below_drewN (Below.refl _ _) _) _)), HB1.out.later (below_drewN (below_drewN (Below.refl _ _) _) _)⟩ | exact ⟨rfl, HBut.out.trans (But.of (below_drewN (Below.refl _ _) _)), HB1.out.later (below_drewN (Below.refl _ _) _)⟩
          · have hf3 : (k + 1 == fl) = false := by simpa using hf2
            have E : Hid (chargeR k 0 fl false = (0, k + 1, false)) := by show _ = _; simp [chargeR, hm, hf, hf2]
            go_enter Tryz.func59, Tryz.ntmps59
            go_wp2_with fail
            go_quiet (fail)
            go_wp2_with fail
            go_quiet (fail)
            go_wp2
            go_ret
            rw [E.out]
            first | exact ⟨rfl, HBut.out.trans (But.of (below_drewN (below_drewN (Below.refl _ _) _) _)), HB1.out.later (below_drewN (below_drewN (Below.refl _ _) _) _)⟩ | exact ⟨rfl, HBut.out.trans (But.of (below_drewN (Below.refl _ _) _)), HB1.out.later (below_drewN (Below.refl _ _) _)⟩
      · have hc1 : decide (cr = 0) = false := by simpa using hc
        by_cases hc2 : k + 1 = cr
        · subst hc2
          have E : Hid (chargeR k (k + 1) fl false = (1, k + 1, true)) := by show _ = _; simp [chargeR, hm, hc]
          go_enter Tryz.func59, Tryz.ntmps59
          go_wp2_with fail
          go_quiet (fail)
          go_wp2
          go_ret
          rw [E.out]
          refine ⟨rfl, (HBut.out.trans (But.of (below_drewN (Below.refl _ _) _))).setCell _ _, ?_⟩
          have := (HB1.out.later (below_drewN (Below.refl _ _) nq)).set 3 (.bool true)
          simpa using this
        · have hc3 : (k + 1 == cr) = false := by simpa using hc2
          by_cases hf : fl = 0
          · subst hf
            have E : Hid (chargeR k cr 0 false = (0, k + 1, false)) := by show _ = _; simp [chargeR, hm, hc, hc2]
            go_enter Tryz.func59, Tryz.ntmps59
            go_wp2_with fail
            go_quiet (fail)
            go_wp2_with fail
            go_quiet (fail)
            go_wp2
            go_ret
            rw [E.out]
            first | exact ⟨rfl, HBut.out.trans (But.of (below_drewN (below_drewN (Below.refl _ _) _) _)), HB1.out.later (below_drewN (below_drewN (Below.refl _ _) _) _)⟩ | exact ⟨rfl, HBut.out.trans (But.of (below_drewN (Below.refl _ _) _)), HB1.out.later (below_drewN (Below.refl _ _) _)⟩
          · have hf1 : decide (fl = 0) = false := by simpa using hf
            by_cases hf2 : k + 1 = fl
            · subst hf2
              have E : Hid (chargeR k cr (k + 1) false = (2, k + 1, false)) := by show _ = _; simp [chargeR, hm, hc, hc2, hf]
              go_enter Tryz.func59, Tryz.ntmps59
              go_wp2_with fail
              go_quiet (fail)
              go_wp2_with fail
              go_quiet (fail)
              go_wp2
              go_ret
              rw [E.out]
              first | exact ⟨rfl, HBut.out.trans (But.of (below_drewN (below_drewN (Below.refl _ _) _) _)), HB1.out.later (below_drewN (below_drewN (Below.refl _ _) _) _)⟩ | exact ⟨rfl, HBut.out.trans (But.of (below_drewN (Below.refl _ _) _)), HB1.out.later (below_drewN (Below.refl _ _) _)⟩
            · have hf3 : (k + 1 == fl) = false := by simpa using hf2
              have E : Hid (chargeR k cr fl false = (0, k + 1, false)) := by show _ = _; simp [chargeR, hm, hc, hc2, hf, hf2]
              go_enter Tryz.func59, Tryz.ntmps59
              go_wp2_with fail
              go_quiet (fail)
              go_wp2_with fail
              go_quiet (fail)
              go_wp2
              go_ret
              rw [E.out]
              first | exact ⟨rfl, HBut.out.trans (But.of (below_drewN (below_drewN (Below.refl _ _) _) _)), HB1.out.later (below_drewN (below_drewN (Below.refl _ _) _) _)⟩ | exact ⟨rfl, HBut.out.trans (But.of (below_drewN (Below.refl _ _) _)), HB1.out.later (below_drewN (Below.refl _ _) _)⟩
end Go.Proofs.YtboofidegpnkaaaGreatDoor
