import Derived.Test.YtgpgacncmoiefaaProg
import Derived.Test.YtgpgacncmoiefaaSScan
import Derived.Test.YtgpgacncmoiefaaStrsEq
import Derived.Test.YtgpgacncmoiefaaStrB
namespace Go.Proofs.Ytgpgacncmoiefaa
open Go.RowKit

theorem scanR_len (d : ByteArray) : ∀ n p, (scanR d n p).1.length ≤ n
  | 0, _ => by simp [scanR]
  | n + 1, p => by
    rw [scanR]
    split
    · simp only [List.length_cons]
      exact Nat.succ_le_succ (scanR_len d n _)
    · simp

set_option maxRecDepth 100000 in
set_option maxHeartbeats 1000000 in
theorem lawScan_core (d : ByteArray) (w : World) (hs : d.size ≤ maxLen)
    (HIM : Hid (d.size ≤ 1048576 → ∀ W, Calls Try.prog 14 #[.string d] W fun e w' => ∃ a cap, e = .returned (.tuple #[.slice a (scanV d).1.length cap, .int .i64 ((scanV d).2 : Nat)]) ∧ StrsOwn w' W.heap.size a (scanV d).1 ∧ Below W.heap.size W w')) :
    Calls Try.prog 5 #[.string d] w fun e w' => e = .returned (.bool true) ∧ Below w.heap.size w w' := by
  unfold maxLen at hs
  by_cases hbig : (1048576 : Int) < d.size
  · go_enter Try.func5, Try.ntmps5
    go_wp2
    go_ret
    exact ⟨rfl, Below.refl _ _⟩
  have hl : (scanV d).1.length ≤ 1048577 := by have := scanR_len d (d.size + 1) 0; unfold scanV; omega
  have hsp := fun W => specScan_any d W (by omega)
  have him := HIM.out (by omega)
  generalize (scanV d).1 = L at *
  generalize (scanV d).2 = p at *
  have HSP : Hid (∀ W, Calls Try.prog 13 #[.string d] W fun e w' => ∃ a cap, e = .returned (.tuple #[.slice a L.length cap, .int .i64 (p : Nat)]) ∧ StrsOwn w' W.heap.size a L ∧ Below W.heap.size W w') := hsp
  have HI : Hid (∀ W, Calls Try.prog 14 #[.string d] W fun e w' => ∃ a cap, e = .returned (.tuple #[.slice a L.length cap, .int .i64 (p : Nat)]) ∧ StrsOwn w' W.heap.size a L ∧ Below W.heap.size W w') := him
  clear hsp him HIM
  go_enter Try.func5, Try.ntmps5
  go_wp2_with fail
  refine (HSP.out _).mono ?_
  rintro e w1 ⟨aw, cw, rfl, how, hb1⟩
  have B1 : Hid (Below w.heap.size w w1) := hb1
  have OW1 : Hid (StrsIn w1 aw L) := how.strs
  have hw1 := hb1.size
  clear hb1 how
  go_wp2_with fail
  refine (HI.out _).mono ?_
  rintro e w2 ⟨ag, cg, rfl, hog, hb2⟩
  have B2 : Hid (Below w.heap.size w w2) := bto B1.out hb2
  have OW2 : Hid (StrsIn w2 aw L) := OW1.out.later hb2
  have OG2 : Hid (StrsOwn w2 w1.heap.size ag L) := hog
  have AP : Hid (L = [] ∨ ∃ b o, aw = some ⟨b, o, none⟩ ∧ b < w1.heap.size) := by
    rcases OW1.out with h | ⟨b, o, e, hlt, _⟩
    · exact Or.inl h
    · exact Or.inr ⟨b, o, e, hlt⟩
  have hw2 := hb2.size
  clear hb2 hog B1 OW1
  go_wp2_with fail
  refine (eqStringS_same _ _ _ _ L _ OG2.out.strs OW2.out (by simp [maxLen]; omega)).mono ?_
  rintro e w3 ⟨rfl, hb3⟩
  have B3 : Hid (Below w.heap.size w w3) := bto B2.out hb3
  have OW3 : Hid (StrsIn w3 aw L) := OW2.out.later hb3
  have OG3 : Hid (StrsOwn w3 w1.heap.size ag L) := OG2.out.later hb3
  have hw3 := hb3.size
  clear hb3 B2 OW2 OG2
  go_wp2_with fail
  refine (markStringS_any ag cg L 1 w1.heap.size _ (by omega) (by omega) OG3.out).mono ?_
  rintro e w4 ⟨rfl, hm4, ho4⟩
  have M4 : Hid (StrsIn w4 ag (markT 1 L.length)) := ho4.strs
  have B4 : Hid (Below w.heap.size w w4) := B3.out.trans ((hm4.below (by omega)).mono (by omega))
  have OW4 : Hid (StrsIn w4 aw L) := by
    rcases hm4 with ⟨_, h⟩ | ⟨_, g, o, e, hB, h⟩
    · exact OW3.out.later h
    · refine OW3.out.but h ?_
      rcases AP.out with hn | ⟨b, o', e', hlt⟩
      · exact Or.inl hn
      · exact Or.inr ⟨b, o', e', by omega⟩
  clear hm4 ho4 B3 OW3 OG3 AP
  go_wp2_with fail
  refine (heldStringS_any ag cg 1 L.length _ (by omega) (by omega) M4.out).mono ?_
  rintro e w5 ⟨rfl, hb5⟩
  have B5 : Hid (Below w.heap.size w w5) := bto B4.out hb5
  have OW5 : Hid (StrsIn w5 aw L) := OW4.out.later hb5
  clear hb5 B4 OW4 M4
  have hkk : ¬ (((1 + L.length : Nat) : Int) < 0) := by omega
  go_wp2_with fail
  refine (HI.out _).mono ?_
  rintro e w6 ⟨ah, ch, rfl, hoh, hb6⟩
  have B6 : Hid (Below w.heap.size w w6) := bto B5.out hb6
  have OW6 : Hid (StrsIn w6 aw L) := OW5.out.later hb6
  have OH6 : Hid (StrsIn w6 ah L) := hoh.strs
  clear hb6 hoh B5 OW5
  go_wp2_with fail
  refine (eqStringS_same _ _ _ _ L _ OH6.out OW6.out (by simp [maxLen]; omega)).mono ?_
  rintro e w7 ⟨rfl, hb7⟩
  have B7 : Hid (Below w.heap.size w w7) := bto B6.out hb7
  clear hb7
  go_wp2
  go_ret
  exact ⟨rfl, B7.out⟩
end Go.Proofs.Ytgpgacncmoiefaa
