import Derived.Test.YteohobkigjmjlaaDoorProg
import Derived.Test.YteohobkigjmjlaaDoorICanon
import Derived.Test.YteohobkigjmjlaaDoorSCanon
import Derived.Test.YteohobkigjmjlaaDoorLabM
import Derived.Test.YteohobkigjmjlaaDoorLawL
import Derived.Test.YteohobkigjmjlaaDoorLabT
namespace Go.Proofs.YteohobkigjmjlaaDoor
open Go.RowKit

/-- Marking leaves labels that lie elsewhere. -/
theorem Marked.labs {w w' : World} {B n : Nat} {a a' : Option Addr} {ls : List LabD} (h : Marked w w' B a n) (hl : LabsIn w a' ls) (hne : ls = [] ∨ ∃ b o, a' = some ⟨b, o, none⟩ ∧ ∀ g o', a = some ⟨g, o', none⟩ → b ≠ g) : LabsIn w' a' ls := by
  rcases h with ⟨_, h⟩ | ⟨_, g, o', rfl, _, h⟩
  · exact hl.later h
  · refine hl.but h ?_
    rcases hne with h0 | ⟨b, o, e, hn⟩
    · exact Or.inl h0
    · exact Or.inr ⟨b, o, e, hn g o' rfl⟩
theorem markLabelS_any' (a : Option Addr) (cap : Nat) (fs : List LabD) (n : Nat) (hn : n = fs.length) (k B : Nat) (w : World) (hk : 0 < k) (hk2 : k + 2 * n ≤ 100000000) (hf : LabsOwn w B a fs) :
    Calls Tryd.prog 13 #[.slice a n cap, .int .i64 (k : Int)] w fun e w' => e = .returned (.int .i64 ((k + 2 * n : Nat) : Int)) ∧ Marked w w' B a n ∧ LabsOwn w' B a (markLabs k n) := by
  subst hn
  exact markLabelS_any a cap fs k B w hk hk2 hf
set_option maxRecDepth 100000 in
set_option maxHeartbeats 2000000 in
theorem lawCanon (a : Option Addr) (cap : Nat) (ls : List LabD) (w : World) (hf : LabsIn w a ls) (hs : ShortL ls) (hlen : ls.length ≤ maxLen) (hT : UTab w) :
    Calls Tryd.prog 3 #[.slice a ls.length cap] w fun e w' => e = .returned (.bool true) ∧ Below w.heap.size w w' := by
  have HSZ : Hid (Calls Tryd.prog 8 #[.slice a ls.length cap, .int .i64 1048576] w fun e w' => e = .returned (.int .i64 (szLabs 1048576 ls)) ∧ Below w.heap.size w w') := szLabelS_any a cap ls 1048576 w (by omega) (by omega) hf hs hlen
  by_cases hbig : (ls.length + labBulk ls : Int) ≤ 1048576
  · have e : szLabs 1048576 ls = 1048576 - ls.length - labBulk ls := by unfold szLabs; rw [if_pos hbig]
    rw [e] at HSZ
    have hl : ls.length ≤ 1048576 := by omega
    have hbl : BigL ls := big_of (by omega)
    have h0 : ¬ ((1048576 : Int) - ls.length - labBulk ls < 0) := by omega
    have HTO : Hid (∀ W, Below w.heap.size w W → Calls Tryd.prog 10 #[.slice a ls.length cap] W fun e w' => e = .returned (.slice (some ⟨W.heap.size, 0, none⟩) ls.length ls.length) ∧ LabsOwn w' W.heap.size (some ⟨W.heap.size, 0, none⟩) ls ∧ Below W.heap.size W w') := fun W hW => toLabelS_any a cap ls W (hf.later hW) hl
    have HSP : Hid (∀ W b, LabsIn W (some ⟨b, 0, none⟩) ls → Calls Tryd.prog 9 #[.slice (some ⟨b, 0, none⟩) ls.length ls.length] W fun e w' => CanonOut e W w' (canonR ls).1 (canonR ls).2.1 (canonR ls).2.2) := fun W b h => specCanon_any _ _ ls W h hbl (by omega) (Nat.le_refl _)
    have HIM : Hid (∀ W b, LabsIn W (some ⟨b, 0, none⟩) ls → UTab W → Calls Tryd.prog 11 #[.slice (some ⟨b, 0, none⟩) ls.length ls.length] W fun e w' => ∃ a' cap', e = .returned (.tuple #[.slice a' (canonR ls).1.length cap', .int .i64 ((canonR ls).2.1 : Nat), .int .i64 ((canonR ls).2.2 : Nat)]) ∧ (canonR ls).1.length ≤ cap' ∧ LabsOwn w' W.heap.size a' (canonR ls).1 ∧ Below W.heap.size W w') := fun W b h hU => implCanon_any _ _ ls W h hbl (by omega) (Nat.le_refl _) hU
    have hC := canon_len ls
    have HT : Hid (UTab w) := hT
    clear hf hs hlen hT hbl e
    unfold CanonOut at HSP
    generalize (canonR ls).1 = C at *
    generalize (canonR ls).2.1 = c1 at *
    generalize (canonR ls).2.2 = c2 at *
    generalize (1048576 : Int) - ls.length - labBulk ls = left at *
    generalize hn : ls.length = n at *
    clear hbig
    go_enter Tryd.func3, Tryd.ntmps3
    go_wp2_with fail
    refine HSZ.out.mono ?_
    rintro e w1 ⟨rfl, hb1⟩
    have B1 : Hid (Below w.heap.size w w1) := hb1
    clear hb1 HSZ
    go_wp2_with fail
    refine (HTO.out _ B1.out).mono ?_
    rintro e w2 ⟨rfl, ho2, hb2⟩
    have B2 : Hid (Below w.heap.size w w2) := bto B1.out hb2
    have O2 : Hid (LabsIn w2 (some ⟨w1.heap.size, 0, none⟩) ls) := ho2.labs
    clear ho2 hb2
    go_wp2_with fail
    refine (HSP.out _ _ O2.out).mono ?_
    rintro e w3 ⟨aw, cw, rfl, how, hb3⟩
    have B3 : Hid (Below w.heap.size w w3) := bto B2.out hb3
    have OW3 : Hid (LabsIn w3 aw C) := how.labs
    have hz03 : w.heap.size ≤ w3.heap.size := B3.out.size
    clear how hb3 B2 O2
    go_wp2_with fail
    refine (HTO.out _ B3.out).mono ?_
    rintro e w4 ⟨rfl, ho4, hb4⟩
    have B4 : Hid (Below w.heap.size w w4) := bto B3.out hb4
    have OX4 : Hid (LabsOwn w4 w3.heap.size (some ⟨w3.heap.size, 0, none⟩) ls) := ho4
    have OW4 : Hid (LabsIn w4 aw C) := OW3.out.later hb4
    have AW : Hid (C = [] ∨ ∃ b o, aw = some ⟨b, o, none⟩ ∧ b < w3.heap.size) := OW3.out.lt
    have AX : Hid (n = 0 ∨ w3.heap.size < w4.heap.size) := by
      rcases ho4 with h | ⟨g, o, cur, t, e, _, hg, _⟩
      · left; rw [← hn, h]; rfl
      · right
        simp only [Option.some.injEq, Addr.mk.injEq, and_true] at e
        rw [e.1]; exact lt_of_block hg
    have hz34 := hb4.size
    clear ho4 hb4 B3 OW3
    go_wp2_with fail
    refine (HIM.out _ _ OX4.out.labs (HT.out.later B4.out)).mono ?_
    rintro e w5 ⟨ag, cg, rfl, _, hog, hb5⟩
    have B5 : Hid (Below w.heap.size w w5) := bto B4.out hb5
    have OX5 : Hid (LabsOwn w5 w3.heap.size (some ⟨w3.heap.size, 0, none⟩) ls) := OX4.out.later hb5
    have OW5 : Hid (LabsIn w5 aw C) := OW4.out.later hb5
    have OG5 : Hid (LabsOwn w5 w4.heap.size ag C) := hog
    have hz45 := hb5.size
    clear hog hb5 B4 OX4 OW4
    go_wp2_with fail
    refine (eqLabelS_same _ _ _ _ C _ OG5.out.labs OW5.out (by simp [maxLen]; omega)).mono ?_
    rintro e w6 ⟨rfl, hb6⟩
    have B6 : Hid (Below w.heap.size w w6) := bto B5.out hb6
    have OX6 : Hid (LabsOwn w6 w3.heap.size (some ⟨w3.heap.size, 0, none⟩) ls) := OX5.out.later hb6
    have OW6 : Hid (LabsIn w6 aw C) := OW5.out.later hb6
    have OG6 : Hid (LabsOwn w6 w4.heap.size ag C) := OG5.out.later hb6
    have hz56 := hb6.size
    clear hb6 B5 OX5 OW5 OG5
    go_wp2_with fail
    refine (HTO.out _ B6.out).mono ?_
    rintro e w7 ⟨rfl, ho7, hb7⟩
    have B7 : Hid (Below w.heap.size w w7) := bto B6.out hb7
    have OT7 : Hid (LabsIn w7 (some ⟨w6.heap.size, 0, none⟩) ls) := ho7.labs
    have OX7 : Hid (LabsOwn w7 w3.heap.size (some ⟨w3.heap.size, 0, none⟩) ls) := OX6.out.later hb7
    have OW7 : Hid (LabsIn w7 aw C) := OW6.out.later hb7
    have OG7 : Hid (LabsOwn w7 w4.heap.size ag C) := OG6.out.later hb7
    have hz67 := hb7.size
    clear ho7 hb7 B6 OX6 OW6 OG6
    go_wp2_with fail
    refine (eqLabelS_same' _ _ _ _ ls n hn.symm _ OX7.out.labs OT7.out (by simp [maxLen]; omega)).mono ?_
    rintro e w8 ⟨rfl, hb8⟩
    have B8 : Hid (Below w.heap.size w w8) := bto B7.out hb8
    have OX8 : Hid (LabsOwn w8 w3.heap.size (some ⟨w3.heap.size, 0, none⟩) ls) := OX7.out.later hb8
    have OW8 : Hid (LabsIn w8 aw C) := OW7.out.later hb8
    have OG8 : Hid (LabsOwn w8 w4.heap.size ag C) := OG7.out.later hb8
    have hz78 := hb8.size
    clear hb8 B7 OX7 OW7 OG7 OT7
    go_wp2_with fail
    refine (markLabelS_any' _ n ls n hn.symm 1 w3.heap.size _ (by omega) (by omega) OX8.out).mono ?_
    rintro e w9 ⟨rfl, hm9, _⟩
    have B9 : Hid (Below w.heap.size w w9) := B8.out.trans ((hm9.below (by omega)).mono (by omega))
    have OW9 : Hid (LabsIn w9 aw C) := hm9.labs OW8.out (by
      rcases AW.out with h | ⟨b, o, e, hlt⟩
      · exact Or.inl h
      · exact Or.inr ⟨b, o, e, fun g o' e' => by simp only [Option.some.injEq, Addr.mk.injEq, and_true] at e'; omega⟩)
    have OG9 : Hid (LabsOwn w9 w4.heap.size ag C) := by
      rcases OG8.out with h | ⟨g, o, cur, t, e, hB, hg, hl⟩
      · exact Or.inl h
      · rcases AX.out with h0 | hlt
        · rcases hm9 with ⟨_, h⟩ | ⟨hp, _⟩
          · exact OG8.out.later h
          · omega
        · rcases hm9 with ⟨_, h⟩ | ⟨_, g', o', e', _, h⟩
          · exact OG8.out.later h
          · simp only [Option.some.injEq, Addr.mk.injEq, and_true] at e'
            have hne : g ≠ g' := by omega
            have hbk := h.block g (lt_of_block hg) hne
            exact Or.inr ⟨g, o, cur, t, e, hB, hbk.trans hg, fun i hi => by
              have hk : ∀ j, w9.cell? ⟨g, j, none⟩ = w8.cell? ⟨g, j, none⟩ := fun j => World.cell?_of_block hbk
              simp only [hk]; exact hl i hi⟩
    have hz89 : w8.heap.size ≤ w9.heap.size := (hm9.below (by omega)).size
    clear hm9 B8 OW8 OG8 OX8
    have hk0 : ¬ (((1 + 2 * n : Nat) : Int) < 0) := by omega
    go_wp2_with fail
    refine (eqLabelS_same _ _ _ _ C _ OG9.out.labs OW9.out (by simp [maxLen]; omega)).mono ?_
    rintro e w10 ⟨rfl, hb10⟩
    have B10 : Hid (Below w.heap.size w w10) := bto B9.out hb10
    have OW10 : Hid (LabsIn w10 aw C) := OW9.out.later hb10
    have OG10 : Hid (LabsOwn w10 w4.heap.size ag C) := OG9.out.later hb10
    have hz910 := hb10.size
    clear hb10 B9 OW9 OG9
    go_wp2_with fail
    refine (markLabelS_any ag cg C 1 w4.heap.size _ (by omega) (by omega) OG10.out).mono ?_
    rintro e w11 ⟨rfl, hm11, ho11⟩
    have B11 : Hid (Below w.heap.size w w11) := B10.out.trans ((hm11.below (by omega)).mono (by omega))
    have M11 : Hid (LabsIn w11 ag (markLabs 1 C.length)) := ho11.labs
    have OW11 : Hid (LabsIn w11 aw C) := by
      rcases hm11 with ⟨_, h⟩ | ⟨_, g', o', e', hB', h⟩
      · exact OW10.out.later h
      · refine OW10.out.but h ?_
        rcases AW.out with h | ⟨b, o, e, hlt⟩
        · exact Or.inl h
        · exact Or.inr ⟨b, o, e, by omega⟩
    clear hm11 ho11 B10 OW10 OG10
    go_wp2_with fail
    refine (heldLabelS_any ag cg 1 C.length _ (by omega) (by omega) M11.out).mono ?_
    rintro e w12 ⟨rfl, hb12⟩
    have B12 : Hid (Below w.heap.size w w12) := bto B11.out hb12
    have OW12 : Hid (LabsIn w12 aw C) := OW11.out.later hb12
    clear hb12 B11 OW11 M11
    have hkk : ¬ (((1 + 2 * C.length : Nat) : Int) < 0) := by omega
    go_wp2_with fail
    refine (HTO.out _ B12.out).mono ?_
    rintro e w13 ⟨rfl, ho13, hb13⟩
    have B13 : Hid (Below w.heap.size w w13) := bto B12.out hb13
    have OT13 : Hid (LabsIn w13 (some ⟨w12.heap.size, 0, none⟩) ls) := ho13.labs
    have OW13 : Hid (LabsIn w13 aw C) := OW12.out.later hb13
    clear ho13 hb13 B12 OW12
    go_wp2_with fail
    refine (HIM.out _ _ OT13.out (HT.out.later B13.out)).mono ?_
    rintro e w14 ⟨ah, ch, rfl, _, hoh, hb14⟩
    have B14 : Hid (Below w.heap.size w w14) := bto B13.out hb14
    have OW14 : Hid (LabsIn w14 aw C) := OW13.out.later hb14
    have OH14 : Hid (LabsIn w14 ah C) := hoh.labs
    clear hoh hb14 B13 OW13 OT13
    go_wp2_with fail
    refine (eqLabelS_same _ _ _ _ C _ OH14.out OW14.out (by simp [maxLen]; omega)).mono ?_
    rintro e w15 ⟨rfl, hb15⟩
    have B15 : Hid (Below w.heap.size w w15) := bto B14.out hb15
    clear hb15
    go_wp2
    go_ret
    exact ⟨rfl, B15.out⟩
  · have e : szLabs 1048576 ls = -1 := by unfold szLabs; rw [if_neg hbig]
    rw [e] at HSZ
    clear hf hs hlen hT hbig e
    go_enter Tryd.func3, Tryd.ntmps3
    go_wp2_with fail
    refine HSZ.out.mono ?_
    rintro e w1 ⟨rfl, hb1⟩
    have B1 : Hid (Below w.heap.size w w1) := hb1
    clear hb1
    go_wp2
    go_ret
    exact ⟨rfl, B1.out⟩
end Go.Proofs.YteohobkigjmjlaaDoor
