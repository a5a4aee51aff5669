import Derived.Test.YtmggmbidihjblaaDoorProg
import Derived.Test.YtmggmbidihjblaaDoorI7Ln
import Derived.Test.YtmggmbidihjblaaDoorI7Ct
namespace Go.Proofs.YtmggmbidihjblaaDoor
open Go.RowKit

theorem cell_but {L b : Nat} {w w' : World} {v : Value} (h : w.cell? ⟨b, 0, none⟩ = some v) (hb : But L w w') (hL : b ≠ L) : w'.cell? ⟨b, 0, none⟩ = some v :=
  (World.cell?_of_block (hb.block b (Lib.lt_of_cell h) hL)).trans h
theorem SynTab.but {L : Nat} {w w' : World} (h : SynTab w) (hb : But L w w') (hL : 6 ≤ L) : SynTab w' := by
  obtain ⟨t, p, h⟩ := h
  exact ⟨t, p, cell_but h hb (Nat.ne_of_lt (Nat.lt_of_lt_of_le (by decide) hL))⟩
theorem cutA_len (a : UInt8) (l : List UInt8) : (cutA a l).1.length ≤ l.length ∧ (cutA a l).2.1.length ≤ l.length := by
  rcases cutA_cases a l with ⟨h, _⟩ | ⟨u, v, rfl, h, _⟩ <;> rw [h]
  · exact ⟨Nat.le_refl _, Nat.zero_le _⟩
  · constructor <;> simp <;> omega
def lnC (n : Int) (rest : List UInt8) (more bad : Bool) : Array Value := #[.int .i64 n, .string (baL rest), .bool more, .bool bad]

set_option maxHeartbeats 2000000 in
set_option maxRecDepth 100000 in
theorem next_any (L : Nat) (n : Int) (rest : List UInt8) (more bad : Bool) (w : World) (hL : Blk w L (lnC n rest more bad) 38) (hr : rest.length ≤ 1048576) :
    Calls Tryd.prog 11 #[.pointer (some ⟨L, 0, none⟩)] w fun e w' => e = .returned (.string (baL (cutA 32 rest).1)) ∧ Blk w' L (lnC n (cutA 32 rest).2.1 (cutA 32 rest).2.2 bad) 38 ∧ But L w w' := by
  have HC : Hid (Calls Tryd.prog 17 #[.string (baL rest), .string ⟨#[32]⟩] w fun e w' => e = .returned (.tuple #[.string (baL (cutA 32 rest).1), .string (baL (cutA 32 rest).2.1), .bool (cutA 32 rest).2.2]) ∧ Below w.heap.size w w') := by
    have h := cut32_any (baL rest) w (by rw [baL_size]; exact hr)
    rw [baL_list] at h
    exact h
  unfold lnC at *
  generalize baL (cutA 32 rest).1 = F at *
  generalize baL (cutA 32 rest).2.1 = R at *
  generalize (cutA 32 rest).2.2 = M at *
  generalize baL rest = R0 at *
  have HL : Hid (Blk w L #[.int .i64 n, .string R0, .bool more, .bool bad] 38) := hL
  have y0 := hL.cell 0
  have y1 := hL.cell 1
  have y2 := hL.cell 2
  have y3 := hL.cell 3
  have f1 := hL.free 1
  have f2 := hL.free 2
  clear hL
  go_enter Tryd.func11, Tryd.ntmps11
  go_wp2_with fail
  refine HC.out.mono ?_
  rintro e w1 ⟨rfl, hb⟩
  have H1 : Hid (Blk w1 L #[.int .i64 n, .string R0, .bool more, .bool bad] 38) := HL.out.later hb
  have HB1 : Hid (But L w w1) := But.of hb
  clear hb y0 y1 y2 y3 f1 f2 HL
  have y0 := H1.out.cell 0
  have y1 := H1.out.cell 1
  have y2 := H1.out.cell 2
  have y3 := H1.out.cell 3
  have f1 := H1.out.free 1
  have f2 := H1.out.free 2
  go_wp2
  go_ret
  exact ⟨rfl, (H1.out.set 1 _).set 2 _, (HB1.out.setCell _ _).setCell _ _⟩

set_option maxHeartbeats 2000000 in
set_option maxRecDepth 100000 in
theorem num_any (L : Nat) (n : Int) (rest : List UInt8) (more bad : Bool) (w : World) (hL : Blk w L (lnC n rest more bad) 38) (hr : rest.length ≤ 1048576) (hy : SynTab w) (hG : 6 ≤ L) :
    Calls Tryd.prog 12 #[.pointer (some ⟨L, 0, none⟩)] w fun e w' => e = .returned (.int .i64 (nvV (cutA 32 rest).1)) ∧ Blk w' L (lnC n (cutA 32 rest).2.1 (cutA 32 rest).2.2 (bad || !numB (cutA 32 rest).1)) 38 ∧ But L w w' := by
  have HT : Calls Tryd.prog 18 #[.pointer (some ⟨L, 0, none⟩), .func (.func 19) #[] #[]] w fun e w' => e = .returned (.int .i64 (nvV (cutA 32 rest).1)) ∧ Blk w' L (lnC n (cutA 32 rest).2.1 (cutA 32 rest).2.2 (bad || !numB (cutA 32 rest).1)) 38 ∧ But L w w' := by
    have HN : Hid (Calls Tryd.prog 11 #[.pointer (some ⟨L, 0, none⟩)] w fun e w' => e = .returned (.string (baL (cutA 32 rest).1)) ∧ Blk w' L (lnC n (cutA 32 rest).2.1 (cutA 32 rest).2.2 bad) 38 ∧ But L w w') := next_any L n rest more bad w hL hr
    have HU : Hid (∀ W, SynTab W → Calls Tryd.prog 19 #[.string (baL (cutA 32 rest).1)] W fun e w' => e = .returned (.tuple #[.int .i64 (nvV (cutA 32 rest).1), .bool (numB (cutA 32 rest).1)]) ∧ Below W.heap.size W w') := fun W hW => by
      have := numberIn_any (baL (cutA 32 rest).1) W (by rw [baL_size]; have := (cutA_len 32 rest).1; omega) hW
      rwa [baL_list] at this
    have HY : Hid (SynTab w ∧ 6 ≤ L) := ⟨hy, hG⟩
    unfold lnC at *
    generalize (cutA 32 rest).1 = F at *
    generalize (cutA 32 rest).2.1 = R at *
    generalize (cutA 32 rest).2.2 = M at *
    generalize nvV F = V at *
    generalize numB F = NB at *
    generalize baL F = FB at *
    generalize baL R = RB at *
    clear hL hy hG hr
    go_enter Tryd.func18, Tryd.ntmps18
    go_wp2_with fail
    refine HN.out.mono ?_
    rintro e w1 ⟨rfl, hL1, hb1⟩
    have H1 : Hid (Blk w1 L #[.int .i64 n, .string RB, .bool M, .bool bad] 38) := hL1
    have HB1 : Hid (But L w w1) := hb1
    have HY1 : Hid (SynTab w1) := HY.out.1.but hb1 HY.out.2
    clear hL1 hb1
    go_wp2_with fail
    refine (HU.out _ HY1.out).mono ?_
    rintro e w2 ⟨rfl, hb2⟩
    have H2 : Hid (Blk w2 L #[.int .i64 n, .string RB, .bool M, .bool bad] 38) := H1.out.later hb2
    have HB2 : Hid (But L w w2) := HB1.out.trans (But.of hb2)
    clear hb2
    have y0 := H2.out.cell 0
    have y1 := H2.out.cell 1
    have y2 := H2.out.cell 2
    have y3 := H2.out.cell 3
    have f3 := H2.out.free 3
    cases bad <;> cases NB <;> go_wp2 <;> go_ret <;> exact ⟨rfl, H2.out.set 3 _, HB2.out.setCell _ _⟩
  have HH := hid HT
  clear HT hL hy
  generalize (cutA 32 rest).1 = F at *
  generalize (cutA 32 rest).2.1 = R at *
  generalize (cutA 32 rest).2.2 = M at *
  generalize nvV F = V at *
  go_enter Tryd.func12, Tryd.ntmps12
  go_wp2_with fail
  refine HH.out.mono ?_
  rintro e w1 ⟨rfl, h1, h2⟩
  go_wp2
  go_ret
  exact ⟨rfl, h1, h2⟩
end Go.Proofs.YtmggmbidihjblaaDoor
