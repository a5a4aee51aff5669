import Derived.Test.YtmggmbidihjblaaDoorProg
import Derived.Test.YtmggmbidihjblaaDoorI7Pu
import Derived.Test.YtmggmbidihjblaaDoorBlkN
namespace Go.Proofs.YtmggmbidihjblaaDoor
open Go.RowKit

def nvV (l : List UInt8) : Int := if numB l = true then (valD l : Int) else 0
theorem nvV_no {l : List UInt8} (h : numB l = false) : nvV l = 0 := by unfold nvV; rw [if_neg (by rw [h]; decide)]
theorem nvV_yes {l : List UInt8} (h : numB l = true) : nvV l = (valD l : Int) := by unfold nvV; rw [if_pos h]

set_option maxHeartbeats 2000000 in
set_option maxRecDepth 100000 in
theorem numberIn_any (t : ByteArray) (w : World) (ht : t.size ≤ 1048576) (hs : SynTab w) :
    Calls Tryd.prog 19 #[.string t] w fun e w' => e = .returned (.tuple #[.int .i64 (nvV t.data.toList), .bool (numB t.data.toList)]) ∧ Below w.heap.size w w' := by
  have hlen : t.data.toList.length = t.size := Array.length_toList
  by_cases h13 : t.size ≤ 13
  · have hpu := pu63_any t h13 w hs
    by_cases hz : 1 < t.size ∧ t.data.toList.head? = some 48
    · have HN : Hid (numB t.data.toList = false) := by
        show _ = _
        unfold numB
        rw [hz.2, decide_eq_false (show ¬ t.data.toList.length = 1 by omega)]
        simp
      have h1 := hz.1
      have h00 : 0 < t.size := by omega
      have hc : (t[0]'h00).toNat = 48 := by
        have h2 := hz.2
        rw [List.head?_eq_getElem?, List.getElem?_eq_getElem (by omega), Array.getElem_toList, Option.some.injEq] at h2
        have : t[0]'h00 = 48 := h2
        rw [this]
        rfl
      clear hz hpu
      go_enter Tryd.func19, Tryd.ntmps19
      go_wp2
      go_ret2
      exact ⟨by rw [nvV_no HN.out, HN.out]; rfl, Below.refl _ _⟩
    · have HQ : Hid (numB t.data.toList = decide (t.data.toList.all digB = true ∧ t.size ≠ 0)) := by
        show _ = _
        unfold numB
        rw [hlen]
        by_cases ha : t.data.toList.all digB = true
        · rw [ha]
          by_cases h0 : t.size = 0
          · rw [decide_eq_false (by omega), h0]; rfl
          · rw [decide_eq_true (show 1 ≤ t.size ∧ t.size ≤ 13 by omega), decide_eq_true (show true = true ∧ t.size ≠ 0 from ⟨rfl, h0⟩)]
            by_cases h1 : t.size = 1
            · rw [decide_eq_true h1]; rfl
            · rw [decide_eq_true (show t.data.toList.head? ≠ some 48 from fun e => hz ⟨by omega, e⟩), Bool.or_true]; rfl
        · rw [decide_eq_false (show ¬ (t.data.toList.all digB = true ∧ t.size ≠ 0) from fun h => ha h.1), show t.data.toList.all digB = false by simpa using ha, Bool.and_false, Bool.false_and]
      have hcc : ∀ h1 : 1 < t.size, (((t[0]'(by omega)).toNat : Int) == 48) = false := by
        intro h1
        rw [beq_eq_false_iff_ne]
        intro e
        refine hz ⟨h1, ?_⟩
        rw [List.head?_eq_getElem?, List.getElem?_eq_getElem (by omega), Array.getElem_toList]
        have e2 : (t[0]'(by omega)).toNat = 48 := by omega
        exact congrArg some (UInt8.toNat_inj.1 e2)
      clear hz
      by_cases hd : t.data.toList.all digB = true ∧ t.size ≠ 0
      · simp only [if_pos hd] at hpu
        have HN : Hid (numB t.data.toList = true) := by show _ = _; rw [HQ.out, decide_eq_true hd]
        have hV := valD_13 hd.1 (by omega)
        have HVV : Hid (nvV t.data.toList = (valD t.data.toList : Int)) := nvV_yes HN.out
        have HPU : Hid (Calls Tryd.prog 23 #[.string t, .int .i64 10, .int .i64 63] w fun e w' => e = .returned (.tuple #[.int .u64 (valD t.data.toList : Int), .nilIface]) ∧ Below w.heap.size w w') := hpu
        generalize valD t.data.toList = V at *
        clear hpu
        obtain ⟨_, h0⟩ := hd
        by_cases h1 : 1 < t.size
        · have hc := hcc h1
          clear hcc
          go_enter Tryd.func19, Tryd.ntmps19
          go_wp2_with fail
          refine HPU.out.mono ?_
          rintro e w1 ⟨rfl, hb⟩
          go_wp2_with fail
          go_region
          go_wp2
          go_ret2
          exact ⟨by rw [HVV.out, HN.out]; first | rfl | go_num, hb.drew⟩
        · clear hcc
          go_enter Tryd.func19, Tryd.ntmps19
          go_wp2_with fail
          refine HPU.out.mono ?_
          rintro e w1 ⟨rfl, hb⟩
          go_wp2_with fail
          go_region
          go_wp2
          go_ret2
          exact ⟨by rw [HVV.out, HN.out]; first | rfl | go_num, hb.drew⟩
      · simp only [if_neg hd] at hpu
        have HN : Hid (numB t.data.toList = false) := by show _ = _; rw [HQ.out, decide_eq_false hd]
        have HVV : Hid (nvV t.data.toList = 0) := nvV_no HN.out
        have HPU : Hid (Calls Tryd.prog 23 #[.string t, .int .i64 10, .int .i64 63] w fun e w' => (∃ a p, e = .returned (.tuple #[.int .u64 0, .iface a p])) ∧ Below w.heap.size w w') := hpu
        clear hpu hd
        by_cases h1 : 1 < t.size
        · have hc := hcc h1
          clear hcc
          go_enter Tryd.func19, Tryd.ntmps19
          go_wp2_with fail
          refine HPU.out.mono ?_
          rintro e w1 ⟨⟨a, p, rfl⟩, hb⟩
          go_wp2_with fail
          go_region
          go_wp2
          go_ret2
          exact ⟨by rw [HVV.out, HN.out]; rfl, hb.drew⟩
        · clear hcc
          go_enter Tryd.func19, Tryd.ntmps19
          go_wp2_with fail
          refine HPU.out.mono ?_
          rintro e w1 ⟨⟨a, p, rfl⟩, hb⟩
          go_wp2_with fail
          go_region
          go_wp2
          go_ret2
          exact ⟨by rw [HVV.out, HN.out]; rfl, hb.drew⟩
  · have HN : Hid (numB t.data.toList = false) := numB_len (by omega)
    go_enter Tryd.func19, Tryd.ntmps19
    go_wp2
    go_ret2
    exact ⟨by rw [nvV_no HN.out, HN.out]; rfl, Below.refl _ _⟩
end Go.Proofs.YtmggmbidihjblaaDoor
