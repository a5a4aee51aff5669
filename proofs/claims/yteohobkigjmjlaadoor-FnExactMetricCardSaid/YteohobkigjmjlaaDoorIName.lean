import Derived.Test.YteohobkigjmjlaaDoorProg
import Derived.Test.YteohobkigjmjlaaDoorSName
import Derived.WalkMore
namespace Go.Proofs.YteohobkigjmjlaaDoor
open Go.RowKit

set_option maxRecDepth 100000 in
set_option maxHeartbeats 2000000 in
theorem implName_any (s : ByteArray) (w : World) (hs : s.size ≤ maxLen) :
    Calls Tryd.prog 66 #[.string s] w fun e w' => e = .returned (.bool (nameB s)) ∧ w' = w := by
  unfold maxLen at hs
  by_cases h1 : 1 ≤ s.size ∧ s.size ≤ 64
  · have h0 : ¬ ((s.size : Int) < 1) := by omega
    have h64 : ¬ ((64 : Int) < s.size) := by omega
    go_enter Tryd.func66, Tryd.ntmps66
    go_wp2
    apply wp_scope_straight
    go_wp2
    apply wp_label
    go_wp2
    go_loop [3, 4, 20, 35] (fun i _ _ _ => ∃ j : Nat, j ≤ s.size ∧ i = .int .i64 j ∧ Hid (∀ k, k < j → nameC s k)) (fun i _ _ _ => s.size - (intOf i).toNat)
    case atStart => exact ⟨0, Nat.zero_le _, rfl, fun k hk => absurd hk (by omega)⟩
    case round =>
      obtain ⟨j, hj, rfl, HA⟩ := hrel
      by_cases hlt : j < s.size
      · have hU2 : s[j].toNat < 256 := s[j].toNat_lt
        have HE : Hid (s[j].toNat = byteAt s j) := byteAt_eq s j hlt
        have hje : ((j : Int) == (s.size : Int)) = false := by simp; omega
        by_cases hc : s[j].toNat = 95
        · have hcb : ((s[j].toNat : Int) == 95) = true := by simp; omega
          go_wp2
          all_goals
            refine ⟨⟨j + 1, by omega, by go_num, ?_⟩, by simp [intOf]; omega⟩
            show ∀ k, _
            intro k hk
            by_cases e : k = j
            · subst e; unfold nameC alphaN; rw [← HE.out]; omega
            · exact HA.out k (by omega)
        · have hcb : ((s[j].toNat : Int) == 95) = false := by simp; omega
          go_wp2
          all_goals first
            | (go_ret
               refine ⟨ret_bool (nameB_not ?_).symm, rfl⟩
               intro h
               have := h.2.2 j hlt
               unfold nameC alphaN digitN at this
               rw [← HE.out] at this
               omega)
            | (refine ⟨⟨j + 1, by omega, by go_num, ?_⟩, by simp [intOf]; omega⟩
               show ∀ k, _
               intro k hk
               by_cases e : k = j
               · subst e
                 unfold nameC alphaN digitN
                 rw [← HE.out]
                 omega
               · exact HA.out k (by omega))
      · have hje : ((j : Int) == (s.size : Int)) = true := by simp; omega
        go_wp2
        go_ret
        exact ⟨ret_bool (nameB_yes ⟨by omega, by omega, fun i hi => HA.out i (by omega)⟩).symm, rfl⟩
  · have E : Hid (nameB s = false) := nameB_not (fun h => h1 ⟨h.1, h.2.1⟩)
    by_cases h2 : (s.size : Int) < 1
    · clear h1
      go_enter Tryd.func66, Tryd.ntmps66
      go_wp2
      apply wp_scope_straight
      go_wp2
      rw [Exit.noGoto_ret]
      show bodyPost Tryd.prog Tryd.f66 _ Exit.ret _ _
      go_ret
      exact ⟨ret_bool E.out.symm, rfl⟩
    · have h3 : (64 : Int) < s.size := by omega
      clear h1
      go_enter Tryd.func66, Tryd.ntmps66
      go_wp2
      apply wp_scope_straight
      go_wp2
      rw [Exit.noGoto_ret]
      show bodyPost Tryd.prog Tryd.f66 _ Exit.ret _ _
      go_ret
      exact ⟨ret_bool E.out.symm, rfl⟩
end Go.Proofs.YteohobkigjmjlaaDoor
