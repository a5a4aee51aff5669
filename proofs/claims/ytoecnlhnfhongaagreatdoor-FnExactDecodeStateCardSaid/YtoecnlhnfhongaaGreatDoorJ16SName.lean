import Derived.Test.YtoecnlhnfhongaaGreatDoorProg
import Derived.Test.YtoecnlhnfhongaaGreatDoorJ02BatL
import Derived.Test.YtoecnlhnfhongaaGreatDoorJ09Win
namespace Go.Proofs.YtoecnlhnfhongaaGreatDoor
open Go.RowKit

theorem nameB_not {s : ByteArray} (h : ¬ nameOK s) : nameB s = false := decide_eq_false h
theorem nameB_yes {s : ByteArray} (h : nameOK s) : nameB s = true := decide_eq_true h

set_option maxRecDepth 100000 in
set_option maxHeartbeats 1000000 in
theorem specName_any (s : ByteArray) (w : World) (hs : s.size ≤ maxLen) :
    Calls Tryz.prog 90 #[.string s] w fun e w' => e = .returned (.bool (nameB s)) ∧ w' = w := by
  unfold maxLen at hs
  by_cases h1 : 1 ≤ s.size ∧ s.size ≤ 64
  · have hb : btwB (s.size : Int) 1 64 = true := by simp [btwB]; omega
    have HB : Hid (btwB (s.size : Int) 1 64 = true) := hb
    clear hb
    have h0 : 0 < s.size := by omega
    have h64 : s.size ≤ 64 := h1.2
    have hU : s[0].toNat < 256 := s[0].toNat_lt
    have HE0 : Hid (s[0].toNat = byteAt s 0) := byteAt_eq s 0 h0
    by_cases hd : 48 ≤ s[0].toNat ∧ s[0].toNat ≤ 57
    · have E : Hid (nameB s = false) := nameB_not (fun h => by
        have := h.2.2 0 h0
        unfold nameC alphaN at this
        rw [← HE0.out] at this
        omega)
      have hd1 : ¬ ((s[0].toNat : Int) < 48) := by omega
      have hd2 : ¬ ((57 : Int) < (s[0].toNat : Int)) := by omega
      clear hd h1
      go_enter Tryz.func90, Tryz.ntmps90
      go_wp2_with fail
      refine (between_any _ _ _ _).mono ?_
      rintro e w1 ⟨rfl, hw⟩
      rw [HB.out]
      replace hw := hw.symm
      subst hw
      go_wp2
      go_ret
      exact ⟨ret_bool E.out.symm, rfl⟩
    · have HD : Hid (¬ (48 ≤ byteAt s 0 ∧ byteAt s 0 ≤ 57)) := by show ¬ _; rw [← HE0.out]; exact hd
      have hd1 : (s[0].toNat : Int) < 48 ∨ (57 : Int) < (s[0].toNat : Int) := by omega
      clear hd h1
      go_enter Tryz.func90, Tryz.ntmps90
      go_wp2_with fail
      refine (between_any _ _ _ _).mono ?_
      rintro e w1 ⟨rfl, hw⟩
      rw [HB.out]
      replace hw := hw.symm
      subst hw
      go_wp2
      all_goals
        go_loop [3, 4] (fun i _ => ∃ j : Nat, j ≤ s.size ∧ i = .int .i64 j ∧ Hid (∀ k, k < j → nameC s k)) (fun i _ => s.size - (intOf i).toNat)
        case atStart => exact ⟨0, Nat.zero_le _, rfl, fun k hk => absurd hk (by omega)⟩
        case round =>
          obtain ⟨j, hj, rfl, HA⟩ := hrel
          by_cases hlt : j < s.size
          · have hU2 : s[j].toNat < 256 := s[j].toNat_lt
            have HE : Hid (s[j].toNat = byteAt s j) := byteAt_eq s j hlt
            have HD2 : Hid (j = 0 → ¬ (48 ≤ s[j].toNat ∧ s[j].toNat ≤ 57)) := fun e => by subst e; rw [HE.out]; exact HD.out
            clear hd1 hU
            by_cases hc : s[j].toNat = 95
            · have hcb : ((s[j].toNat : Int) != 95) = false := by simp; omega
              go_wp2
              all_goals
                refine ⟨⟨j + 1, by omega, by go_num, ?_⟩, by simp [intOf]; omega⟩
                show ∀ k, _
                intro k hk
                by_cases e : k = j
                · subst e; unfold nameC alphaN; rw [← HE.out]; omega
                · exact HA.out k (by omega)
            · have hcb : ((s[j].toNat : Int) != 95) = true := by simp; omega
              go_wp2
              all_goals first
                | (go_ret
                   refine ⟨ret_bool (nameB_not ?_).symm, rfl⟩
                   intro h
                   have := h.2.2 j hlt
                   unfold nameC alphaN digitN at this
                   rw [← HE.out] at this
                   omega)
                | (refine ⟨⟨j + 1, by omega, by go_num, ?_⟩, by simp [intOf]; omega⟩
                   show ∀ k, _
                   intro k hk
                   by_cases e : k = j
                   · subst e
                     have := HD2.out
                     unfold nameC alphaN digitN
                     rw [← HE.out]
                     omega
                   · exact HA.out k (by omega))
                | (exfalso; rename_i hx; simp at hx; omega)
          · go_wp2
            go_ret
            exact ⟨ret_bool (nameB_yes ⟨by omega, h64, fun i hi => HA.out i (by omega)⟩).symm, rfl⟩
  · have hb : btwB (s.size : Int) 1 64 = false := by simp [btwB]; omega
    have HB : Hid (btwB (s.size : Int) 1 64 = false) := hb
    have E : Hid (nameB s = false) := nameB_not (fun h => h1 ⟨h.1, h.2.1⟩)
    clear hb h1
    go_enter Tryz.func90, Tryz.ntmps90
    go_wp2_with fail
    refine (between_any _ _ _ _).mono ?_
    rintro e w1 ⟨rfl, hw⟩
    rw [HB.out]
    replace hw := hw.symm
    subst hw
    go_wp2
    go_ret
    exact ⟨ret_bool E.out.symm, rfl⟩
end Go.Proofs.YtoecnlhnfhongaaGreatDoor

