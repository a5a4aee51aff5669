import Derived.Test.YteohobkigjmjlaaDoorProg
import Derived.Test.YteohobkigjmjlaaDoorIKeyOf
import Derived.Test.YteohobkigjmjlaaDoorSKey
import Derived.Test.YteohobkigjmjlaaDoorLawL
import Derived.Test.YteohobkigjmjlaaDoorLabT
namespace Go.Proofs.YteohobkigjmjlaaDoor
open Go.RowKit

set_option maxRecDepth 100000 in
set_option maxHeartbeats 2000000 in
theorem lawKey (a : Option Addr) (cap : Nat) (ls : List LabD) (w : World) (hf : LabsIn w a ls) (hs : ShortL ls) (hlen : ls.length ≤ maxLen) (hT : UTab w) :
    Calls Tryd.prog 4 #[.slice a ls.length cap] w fun e w' => e = .returned (.bool true) ∧ Below w.heap.size w w' := by
  have HSZ : Hid (Calls Tryd.prog 8 #[.slice a ls.length cap, .int .i64 1048576] w fun e w' => e = .returned (.int .i64 (szLabs 1048576 ls)) ∧ Below w.heap.size w w') := szLabelS_any a cap ls 1048576 w (by omega) (by omega) hf hs hlen
  by_cases hbig : (ls.length + labBulk ls : Int) ≤ 1048576
  · have e : szLabs 1048576 ls = 1048576 - ls.length - labBulk ls := by unfold szLabs; rw [if_pos hbig]
    rw [e] at HSZ
    have hl : ls.length ≤ 1048576 := by omega
    have hbl : BigL ls := big_of (by omega)
    have h0 : ¬ ((1048576 : Int) - ls.length - labBulk ls < 0) := by omega
    have HTO : Hid (∀ W, Below w.heap.size w W → Calls Tryd.prog 10 #[.slice a ls.length cap] W fun e w' => e = .returned (.slice (some ⟨W.heap.size, 0, none⟩) ls.length ls.length) ∧ LabsOwn w' W.heap.size (some ⟨W.heap.size, 0, none⟩) ls ∧ Below W.heap.size W w') := fun W hW => toLabelS_any a cap ls W (hf.later hW) hl
    have HSP : Hid (∀ W b, LabsIn W (some ⟨b, 0, none⟩) ls → Calls Tryd.prog 15 #[.slice (some ⟨b, 0, none⟩) ls.length ls.length] W fun e w' => e = .returned (.string (keyV ls)) ∧ Below W.heap.size W w') := fun W b h => specKey_any _ _ ls W h hbl (by omega) (Nat.le_refl _)
    have HIM : Hid (∀ W b, LabsIn W (some ⟨b, 0, none⟩) ls → UTab W → Calls Tryd.prog 16 #[.slice (some ⟨b, 0, none⟩) ls.length ls.length] W fun e w' => e = .returned (.string (keyV ls)) ∧ Below W.heap.size W w') := fun W b h hU => implKey_any _ _ ls W h hbl (by omega) (Nat.le_refl _) hU
    have HT : Hid (UTab w) := hT
    clear hf hs hlen hT hbl e
    generalize keyV ls = K at *
    generalize (1048576 : Int) - ls.length - labBulk ls = left at *
    generalize hn : ls.length = n at *
    clear hbig
    go_enter Tryd.func4, Tryd.ntmps4
    go_wp2_with fail
    refine HSZ.out.mono ?_
    rintro e w1 ⟨rfl, hb1⟩
    have B1 : Hid (Below w.heap.size w w1) := hb1
    clear hb1 HSZ
    go_wp2_with fail
    refine (HTO.out _ B1.out).mono ?_
    rintro e w2 ⟨rfl, ho2, hb2⟩
    have B2 : Hid (Below w.heap.size w w2) := bto B1.out hb2
    have O2 : Hid (LabsIn w2 (some ⟨w1.heap.size, 0, none⟩) ls) := ho2.labs
    clear ho2 hb2
    go_wp2_with fail
    refine (HSP.out _ _ O2.out).mono ?_
    rintro e w3 ⟨rfl, hb3⟩
    have B3 : Hid (Below w.heap.size w w3) := bto B2.out hb3
    clear hb3 B2 O2
    go_wp2_with fail
    refine (HTO.out _ B3.out).mono ?_
    rintro e w4 ⟨rfl, ho4, hb4⟩
    have B4 : Hid (Below w.heap.size w w4) := bto B3.out hb4
    have OX4 : Hid (LabsIn w4 (some ⟨w3.heap.size, 0, none⟩) ls) := ho4.labs
    clear ho4 hb4 B3
    go_wp2_with fail
    refine (HIM.out _ _ OX4.out (HT.out.later B4.out)).mono ?_
    rintro e w5 ⟨rfl, hb5⟩
    have B5 : Hid (Below w.heap.size w w5) := bto B4.out hb5
    have OX5 : Hid (LabsIn w5 (some ⟨w3.heap.size, 0, none⟩) ls) := OX4.out.later hb5
    clear hb5 B4 OX4
    go_wp2_with fail
    refine (HTO.out _ B5.out).mono ?_
    rintro e w7 ⟨rfl, ho7, hb7⟩
    have B7 : Hid (Below w.heap.size w w7) := bto B5.out hb7
    have OT7 : Hid (LabsIn w7 (some ⟨w5.heap.size, 0, none⟩) ls) := ho7.labs
    have OX7 : Hid (LabsIn w7 (some ⟨w3.heap.size, 0, none⟩) ls) := OX5.out.later hb7
    clear ho7 hb7 B5 OX5
    go_wp2_with fail
    refine (eqLabelS_same' _ _ _ _ ls n hn.symm _ OX7.out OT7.out (by simp [maxLen]; omega)).mono ?_
    rintro e w8 ⟨rfl, hb8⟩
    have B8 : Hid (Below w.heap.size w w8) := bto B7.out hb8
    clear hb8
    go_wp2
    go_ret
    exact ⟨rfl, B8.out⟩
  · have e : szLabs 1048576 ls = -1 := by unfold szLabs; rw [if_neg hbig]
    rw [e] at HSZ
    clear hf hs hlen hT hbig e
    go_enter Tryd.func4, Tryd.ntmps4
    go_wp2_with fail
    refine HSZ.out.mono ?_
    rintro e w1 ⟨rfl, hb1⟩
    have B1 : Hid (Below w.heap.size w w1) := hb1
    clear hb1
    go_wp2
    go_ret
    exact ⟨rfl, B1.out⟩
end Go.Proofs.YteohobkigjmjlaaDoor
