import Derived.Test.YteohobkigjmjlaaDoorProg
import Derived.Test.YteohobkigjmjlaaDoorIDec
import Derived.Test.YteohobkigjmjlaaDoorSDecK
import Derived.Test.YteohobkigjmjlaaDoorLabM
import Derived.Test.YteohobkigjmjlaaDoorLawL
namespace Go.Proofs.YteohobkigjmjlaaDoor
open Go.RowKit

theorem dec_short (key : ByteArray) : (decV key).1.length ≤ 16 := by
  cases hd : (decV key).2 with
  | true => exact can_le (dec_key hd).1
  | false => rw [(dec_not hd).1]; simp
set_option maxRecDepth 100000 in
set_option maxHeartbeats 1000000 in
theorem lawDec (d : ByteArray) (w : World) (hs : d.size ≤ maxLen) (hT : UTab w) :
    Calls Tryd.prog 5 #[.string d] w fun e w' => e = .returned (.bool true) ∧ Below w.heap.size w w' := by
  unfold maxLen at hs
  by_cases hbig : (1048576 : Int) < d.size
  · go_enter Tryd.func5, Tryd.ntmps5
    go_wp2
    go_ret
    exact ⟨rfl, Below.refl _ _⟩
  have hl := dec_short d
  have hsp := fun W => specDec_any d W (by omega)
  have him := fun W => implDec_any d W (by omega)
  generalize (decV d).1 = L at *
  generalize (decV d).2 = p at *
  have HSP : Hid (∀ W, Calls Tryd.prog 17 #[.string d] W fun e w' => ∃ a cap, e = .returned (.tuple #[.slice a L.length cap, .bool p]) ∧ LabsOwn w' W.heap.size a L ∧ Below W.heap.size W w') := hsp
  have HI : Hid (∀ W, UTab W → Calls Tryd.prog 18 #[.string d] W fun e w' => ∃ a cap, e = .returned (.tuple #[.slice a L.length cap, .bool p]) ∧ LabsOwn w' W.heap.size a L ∧ Below W.heap.size W w') := him
  have HT : Hid (UTab w) := hT
  clear hsp him hT
  go_enter Tryd.func5, Tryd.ntmps5
  go_wp2_with fail
  refine (HSP.out _).mono ?_
  rintro e w1 ⟨aw, cw, rfl, how, hb1⟩
  have B1 : Hid (Below w.heap.size w w1) := hb1
  have OW1 : Hid (LabsIn w1 aw L) := how.labs
  have hw1 := hb1.size
  clear hb1 how
  go_wp2_with fail
  refine (HI.out _ (HT.out.later B1.out)).mono ?_
  rintro e w2 ⟨ag, cg, rfl, hog, hb2⟩
  have B2 : Hid (Below w.heap.size w w2) := bto B1.out hb2
  have OW2 : Hid (LabsIn w2 aw L) := OW1.out.later hb2
  have OG2 : Hid (LabsOwn w2 w1.heap.size ag L) := hog
  have AP : Hid (L = [] ∨ ∃ b o, aw = some ⟨b, o, none⟩ ∧ b < w1.heap.size) := OW1.out.lt
  have hw2 := hb2.size
  clear hb2 hog B1 OW1
  go_wp2_with fail
  refine (eqLabelS_same _ _ _ _ L _ OG2.out.labs OW2.out (by simp [maxLen]; omega)).mono ?_
  rintro e w3 ⟨rfl, hb3⟩
  have B3 : Hid (Below w.heap.size w w3) := bto B2.out hb3
  have OW3 : Hid (LabsIn w3 aw L) := OW2.out.later hb3
  have OG3 : Hid (LabsOwn w3 w1.heap.size ag L) := OG2.out.later hb3
  have hw3 := hb3.size
  clear hb3 B2 OW2 OG2
  go_wp2_with fail
  refine (markLabelS_any ag cg L 1 w1.heap.size _ (by omega) (by omega) OG3.out).mono ?_
  rintro e w4 ⟨rfl, hm4, ho4⟩
  have M4 : Hid (LabsIn w4 ag (markLabs 1 L.length)) := ho4.labs
  have B4 : Hid (Below w.heap.size w w4) := B3.out.trans ((hm4.below (by omega)).mono (by omega))
  have OW4 : Hid (LabsIn w4 aw L) := by
    rcases hm4 with ⟨_, h⟩ | ⟨_, g, o, e, hB, h⟩
    · exact OW3.out.later h
    · refine OW3.out.but h ?_
      rcases AP.out with hn | ⟨b, o', e', hlt⟩
      · exact Or.inl hn
      · exact Or.inr ⟨b, o', e', by omega⟩
  clear hm4 ho4 B3 OW3 OG3 AP
  go_wp2_with fail
  refine (heldLabelS_any ag cg 1 L.length _ (by omega) (by omega) M4.out).mono ?_
  rintro e w5 ⟨rfl, hb5⟩
  have B5 : Hid (Below w.heap.size w w5) := bto B4.out hb5
  have OW5 : Hid (LabsIn w5 aw L) := OW4.out.later hb5
  clear hb5 B4 OW4 M4
  have hkk : ¬ (((1 + 2 * L.length : Nat) : Int) < 0) := by omega
  go_wp2_with fail
  refine (HI.out _ (HT.out.later B5.out)).mono ?_
  rintro e w6 ⟨ah, ch, rfl, hoh, hb6⟩
  have B6 : Hid (Below w.heap.size w w6) := bto B5.out hb6
  have OW6 : Hid (LabsIn w6 aw L) := OW5.out.later hb6
  have OH6 : Hid (LabsIn w6 ah L) := hoh.labs
  clear hb6 hoh B5 OW5
  go_wp2_with fail
  refine (eqLabelS_same _ _ _ _ L _ OH6.out OW6.out (by simp [maxLen]; omega)).mono ?_
  rintro e w7 ⟨rfl, hb7⟩
  have B7 : Hid (Below w.heap.size w w7) := bto B6.out hb7
  clear hb7
  go_wp2
  go_ret
  exact ⟨rfl, B7.out⟩
end Go.Proofs.YteohobkigjmjlaaDoor
