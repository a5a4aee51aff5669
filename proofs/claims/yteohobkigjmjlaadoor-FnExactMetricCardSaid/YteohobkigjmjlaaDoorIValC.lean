import Derived.Test.YteohobkigjmjlaaDoorProg
import Derived.Test.YteohobkigjmjlaaDoorIVal
namespace Go.Proofs.YteohobkigjmjlaaDoor
open Go.RowKit

set_option maxRecDepth 100000 in
set_option maxHeartbeats 2000000 in
theorem implVal_any (s : ByteArray) (w : World) (hs : s.size ≤ 1000000000) (hT : UTab w) :
    Calls Tryd.prog 67 #[.string s] w fun e w' => e = .returned (.int .i64 (valV s : Nat)) ∧ Below w.heap.size w w' := by
  have HT : Hid (UTab w) := hT
  clear hT
  have hrg : (Instr.range 9 (.string s)).run Tryd.prog w = .ok (.pointer (some ⟨w.heap.size, 0, none⟩)) (w.iter s 0) := run_range_string w 9 s Tryd.underlying9
  have HI0 : Hid (IterAt (w.iter s 0) w.heap.size s 0 ∧ Below w.heap.size w (w.iter s 0)) := ⟨World.iter_heap _ _ _, bnew _ _⟩
  generalize w.iter s 0 = w0 at *
  go_enter Tryd.func67, Tryd.ntmps67
  go_wp2
  clear hrg
  go_loopw [3, 4, 5, 6] (fun cnt con _ _ wr => ∃ (p : Nat) (acc : List Nat) (bc : Bool), p ≤ s.size ∧ acc.length ≤ p ∧ Hid (RInv s p acc ∧ bc = acc.any ctl) ∧ cnt = .int .i64 (acc.length : Nat) ∧ con = .bool bc ∧ Hid (IterAt wr w.heap.size s p ∧ Below w.heap.size w wr)) (fun _ _ _ _ wr => s.size - wr.iterPos w.heap.size)
  case atStart =>
    exact ⟨0, [], false, Nat.zero_le _, Nat.le_refl _, ⟨RInv.start s, rfl⟩, rfl, rfl, HI0.out⟩
  case round =>
    obtain ⟨p, acc, bc, hp, hac, HR, rfl, rfl, HW⟩ := hrel
    have HM : Hid (wr.iterPos w.heap.size = p) := by show _ = _; unfold World.iterPos; rw [HW.out.1]
    clear HI0
    by_cases hlt : p < s.size
    · have hnx : ∀ ty, (Instr.next (.pointer (some ⟨w.heap.size, 0, none⟩)) true ty).run Tryd.prog wr = _ := fun ty => next_any wr w.heap.size s p ty HW.out.1 hlt
      have hpos := decode_pos s p
      have hrun := decode_rune s p
      have HWA : Hid (∀ W, UTab W → Calls Tryd.prog 84 #[.string s, .int .i64 (p : Nat)] W fun e w' => e = .returned (.int .i64 ((Utf8.decode s p).2 : Nat)) ∧ Below W.heap.size W w') := fun W h => widthAt_any s p W hlt h
      have HFIT : Hid (Utf8.decode s p ≠ (65533, 1) → p + (Utf8.decode s p).2 ≤ s.size) := decode_fits s p hlt
      have HST : Hid (Utf8.decode s p ≠ (65533, 1) → RInv s (p + (Utf8.decode s p).2) (acc ++ [(Utf8.decode s p).1])) := fun hd => HR.out.1.step hlt hd
      have HBAD : Hid (Utf8.decode s p = (65533, 1) → valV s = 42) := fun hd => HR.out.1.bad hlt hd
      have HAN : Hid (∀ r, (acc ++ [r]).any ctl = (bc || ctl r)) := fun r => by rw [List.any_append, ← HR.out.2]; simp
      have HW1 : Hid (IterAt (iterSet wr w.heap.size s (p + (Utf8.decode s p).2)) w.heap.size s (p + (Utf8.decode s p).2) ∧ Below w.heap.size w (iterSet wr w.heap.size s (p + (Utf8.decode s p).2))) := ⟨HW.out.1.set _, iterSet_below HW.out.2 (Nat.le_refl _) _ _⟩
      obtain ⟨R, hR⟩ : ∃ R, (Utf8.decode s p).1 = R := ⟨_, rfl⟩
      obtain ⟨N, hN⟩ : ∃ N, (Utf8.decode s p).2 = N := ⟨_, rfl⟩
      have HD : Hid (Utf8.decode s p = (R, N)) := by show _ = _; rw [← hR, ← hN]
      rw [hR] at hrun hnx
      rw [hN] at hrun hnx hpos
      have HWA2 : Hid (∀ W, UTab W → Calls Tryd.prog 84 #[.string s, .int .i64 (p : Nat)] W fun e w' => e = .returned (.int .i64 (N : Nat)) ∧ Below W.heap.size W w') := by show ∀ _, _; rw [← hN]; exact HWA.out
      have HST2 : Hid ((R, N) ≠ (65533, 1) → RInv s (p + N) (acc ++ [R]) ∧ p + N ≤ s.size) := fun h => by
        have hd : Utf8.decode s p ≠ (65533, 1) := by rw [HD.out]; exact h
        have h1 := HST.out hd
        have h2 := HFIT.out hd
        rw [hR, hN] at h1
        rw [hN] at h2
        exact ⟨h1, h2⟩
      have HW2 : Hid (IterAt (iterSet wr w.heap.size s (p + N)) w.heap.size s (p + N) ∧ Below w.heap.size w (iterSet wr w.heap.size s (p + N))) := by show _ ∧ _; rw [← hN]; exact HW1.out
      clear HWA HST HFIT HW1 hR hN HW
      obtain ⟨hr1, hr2⟩ := hrun
      generalize iterSet wr w.heap.size s (p + N) = W1 at *
      have HGO : Hid (∀ W, (R, N) ≠ (65533, 1) → Below W1.heap.size W1 W → ∃ (p' : Nat) (acc' : List Nat) (bc' : Bool), p' ≤ s.size ∧ acc'.length ≤ p' ∧ Hid (RInv s p' acc' ∧ bc' = acc'.any ctl) ∧ Value.int .i64 ((acc.length : Int) + 1) = .int .i64 (acc'.length : Nat) ∧ Value.bool (bc || ctl R) = .bool bc' ∧ Hid (IterAt W w.heap.size s p' ∧ Below w.heap.size w W)) := fun W hne hb =>
        ⟨p + N, acc ++ [R], bc || ctl R, (HST2.out hne).2, (HST2.out hne).1.1, ⟨(HST2.out hne).1, (HAN.out R).symm⟩, by simp, rfl, HW2.out.1.later hb, bto HW2.out.2 hb⟩
      have HME : Hid (∀ W, (R, N) ≠ (65533, 1) → Below W1.heap.size W1 W → s.size - W.iterPos w.heap.size < s.size - wr.iterPos w.heap.size) := fun W hne hb => by
        have h1 : W.iterPos w.heap.size = p + N := by unfold World.iterPos; rw [HW2.out.1.later hb]
        rw [h1, HM.out]
        omega
      by_cases hf : R = 65533
      · have hfb : ((R : Int) == 65533) = true := by simp; omega
        by_cases h1 : N = 1
        · have hnb : ((N : Int) == 1) = true := by simp; omega
          have HV : Hid (valV s = 42) := HBAD.out (by rw [HD.out, hf, h1])
          clear HGO HME
          go_wp2_with fail
          refine (HWA2.out _ (HT.out.later HW2.out.2)).mono ?_
          rintro e w2 ⟨rfl, hb2⟩
          have HB2 : Hid (Below w.heap.size w w2) := bto HW2.out.2 hb2
          clear hb2
          go_wp2
          go_ret
          exact ⟨ret_int (by rw [HV.out]; rfl), HB2.out⟩
        · have hnb : ((N : Int) == 1) = false := by simp; omega
          have hne : (R, N) ≠ (65533, 1) := by simp; omega
          have HNE : Hid ((R, N) ≠ (65533, 1)) := hne
          clear hne hf h1
          cases bc with
          | true =>
            go_wp2_with fail
            refine (HWA2.out _ (HT.out.later HW2.out.2)).mono ?_
            rintro e w2 ⟨rfl, hb2⟩
            have HB2 : Hid (Below W1.heap.size W1 w2) := hb2
            clear hb2
            go_wp2
            have hg := HGO.out _ HNE.out HB2.out
            rw [Bool.true_or] at hg
            exact ⟨hg, HME.out _ HNE.out HB2.out⟩
          | false =>
            go_wp2_with fail
            refine (HWA2.out _ (HT.out.later HW2.out.2)).mono ?_
            rintro e w2 ⟨rfl, hb2⟩
            have HB2 : Hid (Below W1.heap.size W1 w2) := hb2
            clear hb2
            go_wp2_with fail
            refine (isControl_any R _ hr1).mono ?_
            rintro e w3 ⟨rfl, hw⟩
            replace hw := hw.symm
            subst hw
            go_wp2
            have hg := HGO.out _ HNE.out HB2.out
            rw [Bool.false_or] at hg
            exact ⟨hg, HME.out _ HNE.out HB2.out⟩
      · have hfb : ((R : Int) == 65533) = false := by simp; omega
        have HNE : Hid ((R, N) ≠ (65533, 1)) := by show _ ≠ _; simp; omega
        cases bc with
        | true =>
          go_wp2
          have hg := HGO.out _ HNE.out (Below.refl _ _)
          rw [Bool.true_or] at hg
          exact ⟨hg, HME.out _ HNE.out (Below.refl _ _)⟩
        | false =>
          go_wp2_with fail
          refine (isControl_any R _ hr1).mono ?_
          rintro e w3 ⟨rfl, hw⟩
          replace hw := hw.symm
          subst hw
          go_wp2
          have hg := HGO.out _ HNE.out (Below.refl _ _)
          rw [Bool.false_or] at hg
          exact ⟨hg, HME.out _ HNE.out (Below.refl _ _)⟩
    · have hnx : ∀ ty, (Instr.next (.pointer (some ⟨w.heap.size, 0, none⟩)) true ty).run Tryd.prog wr = _ := fun ty => next_end wr w.heap.size s p ty HW.out.1 hlt
      have HV : Hid (valV s = endV acc) := HR.out.1.done (by omega)
      have HC : Hid (bc = acc.any ctl) := HR.out.2
      have HB : Hid (Below w.heap.size w wr) := HW.out.2
      clear HR HW HM
      by_cases h128 : 128 < acc.length
      · have HE2 : Hid (valV s = 43) := by show _ = _; rw [HV.out, endV, if_pos h128]
        go_wp2
        go_ret
        exact ⟨ret_int (by rw [HE2.out]; rfl), HB.out⟩
      · cases bc with
        | true =>
          have HE2 : Hid (valV s = 44) := by show _ = _; rw [HV.out, endV, if_neg h128, ← HC.out]; rfl
          go_wp2
          go_ret
          exact ⟨ret_int (by rw [HE2.out]; rfl), HB.out⟩
        | false =>
          have HE2 : Hid (valV s = 0) := by show _ = _; rw [HV.out, endV, if_neg h128, ← HC.out]; rfl
          go_wp2
          go_ret
          exact ⟨ret_int (by rw [HE2.out]; rfl), HB.out⟩
end Go.Proofs.YteohobkigjmjlaaDoor
