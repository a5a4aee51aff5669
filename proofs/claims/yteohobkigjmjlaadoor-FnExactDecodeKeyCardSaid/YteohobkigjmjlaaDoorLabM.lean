import Derived.Test.YteohobkigjmjlaaDoorProg
import Derived.Test.YteohobkigjmjlaaDoorLabE
import Derived.Test.YteohobkigjmjlaaDoorMarkT
namespace Go.Proofs.YteohobkigjmjlaaDoor
open Go.RowKit

set_option maxRecDepth 100000 in
set_option maxHeartbeats 2000000 in
theorem markLabelS_any (a : Option Addr) (cap : Nat) (fs : List LabD) (k B : Nat) (w : World) (hk : 0 < k) (hk2 : k + 2 * fs.length ≤ 100000000) (hf : LabsOwn w B a fs) :
    Calls Tryd.prog 13 #[.slice a fs.length cap, .int .i64 (k : Int)] w fun e w' => e = .returned (.int .i64 ((k + 2 * fs.length : Nat) : Int)) ∧ Marked w w' B a fs.length ∧ LabsOwn w' B a (markLabs k fs.length) := by
  have hf3 : fs = [] ∨ (0 < fs.length ∧ ∃ g o cur t, a = some ⟨g, o, none⟩ ∧ B ≤ g ∧ w.heap[g]? = some (.cells cur t (0, 0)) ∧ LabsAt w g o fs) := by
    by_cases h0 : fs = []
    · exact Or.inl h0
    · rcases hf with h | h
      · exact Or.inl h
      · exact Or.inr ⟨List.length_pos_iff.2 h0, h⟩
  clear hf
  rcases hf3 with rfl | ⟨hpos, g, o, cur, t, rfl, hB, hg, hfs⟩
  · go_enter Tryd.func13, Tryd.ntmps13
    go_wp2
    go_loopw [1, 5] (fun l i wr => l = .int .i64 (k : Int) ∧ i = .int .i64 0 ∧ wr = w) (fun _ i _ => 0)
    case atStart => exact ⟨rfl, rfl, rfl⟩
    case round =>
      obtain ⟨rfl, rfl, rfl⟩ := hrel
      go_wp2
      go_ret
      exact ⟨rfl, Or.inl ⟨rfl, Below.refl _ _⟩, Or.inl rfl⟩
  have hrow : ∀ j (hj : j < fs.length), RowLab cur o j fs[j] := rows_of_labsAt hg hfs
  have hsz2 := labs_size hrow
  have HG : Hid (Blk w g cur t) := hg
  clear hrow hg hfs
  generalize fs.length = n at *
  go_enter Tryd.func13, Tryd.ntmps13
  go_wp2
  go_loopw [1, 5] (fun l i wr => ∃ (j : Nat) (c : Array Value), j ≤ n ∧ i = .int .i64 j ∧ l = .int .i64 ((k + 2 * j : Nat) : Int) ∧ Blk wr g c t ∧ c.size = cur.size ∧ (∀ m, m < j → RowLab c o m (markB k m)) ∧ But g w wr) (fun _ i _ => n - (intOf i).toNat)
  case atStart => exact ⟨0, cur, Nat.zero_le _, rfl, rfl, HG.out, rfl, fun m h => absurd h (by omega), But.refl _ _⟩
  case round =>
    obtain ⟨j, c, hj, rfl, rfl, hblk, hcs, hrows, hbut⟩ := hrel
    have HBLK : Hid (Blk wr g c t) := hblk
    have HROWS : Hid (∀ m, m < j → RowLab c o m (markB k m)) := hrows
    have HCS : Hid (c.size = cur.size) := hcs
    clear hblk hrows
    by_cases hlt : j < n
    · have hbd : o + j * 2 + 1 < c.size := by rcases hsz2 with h | h <;> omega
      clear hcs hsz2
      go_wp2_with fail
      refine (markText_int _ (k + 2 * j) (by omega) _ (by omega) (by omega)).mono ?_
      rintro e w1 ⟨rfl, hb1⟩
      have hB1 := HBLK.out.later hb1
      obtain ⟨v0, d0⟩ := hB1.there (j := o + j * 2) (by omega)
      have f0 := hB1.free (o + j * 2)
      have HB1 : Hid (Blk w1 g c t) := hB1
      clear hB1
      go_wp2_with fail
      refine (markText_int _ (k + 2 * j + 1) (by omega) _ (by omega) (by omega)).mono ?_
      rintro e w2 ⟨rfl, hb2⟩
      have hB2 := (HB1.out.set (o + j * 2) (.string (mt (k + 2 * j)))).later hb2
      obtain ⟨v1, d1⟩ := hB2.there (j := o + j * 2 + 1) (by simp; omega)
      have f1 := hB2.free (o + j * 2 + 1)
      have HB2 : Hid (Blk w2 g (c.setIfInBounds (o + j * 2) (.string (mt (k + 2 * j)))) t) := hB2
      have HBUT : Hid (But g w w2) := ((hbut.trans (But.of hb1)).setCell _ _).trans (But.of hb2)
      clear hB2 d0 f0 hb1 hb2 hbut
      go_wp2
      refine ⟨⟨j + 1, _, by omega, by go_num, by go_num, HB2.out.set (o + j * 2 + 1) (.string (mt (k + 2 * j + 1))), by simp [HCS.out], ?_, HBUT.out.setCell _ _⟩, by simp [intOf]; omega⟩
      intro m hm
      by_cases e : m = j
      · subst e
        exact RowLab.made c o m (markB k m) hbd
      · exact ((HROWS.out m (by omega)).set (by omega) _).set (by omega) _
    · go_wp2
      go_ret
      have e : j = n := by omega
      subst e
      refine ⟨ret_int (by omega), Or.inr ⟨hpos, g, o, rfl, hB, hbut⟩, Or.inr ⟨g, o, c, t, rfl, hB, HBLK.out, labsAt_of_rows HBLK.out ?_⟩⟩
      intro m hm
      rw [markLabs_get]
      exact HROWS.out m (by rw [markLabs_length] at hm; exact hm)

set_option maxRecDepth 100000 in
set_option maxHeartbeats 2000000 in
theorem heldLabelS_any (a : Option Addr) (cap : Nat) (k n : Nat) (w : World) (hk : 0 < k) (hk2 : k + 2 * n ≤ 100000000) (hf : LabsIn w a (markLabs k n)) :
    Calls Tryd.prog 14 #[.slice a n cap, .int .i64 (k : Int)] w fun e w' => e = .returned (.int .i64 ((k + 2 * n : Nat) : Int)) ∧ Below w.heap.size w w' := by
  have HF : Hid (LabsIn w a (markLabs k n)) := hf
  clear hf
  go_enter Tryd.func14, Tryd.ntmps14
  go_wp2
  go_loopw [1, 5] (fun l i wr => ∃ j : Nat, j ≤ n ∧ i = .int .i64 j ∧ l = .int .i64 ((k + 2 * j : Nat) : Int) ∧ Below w.heap.size w wr) (fun _ i _ => n - (intOf i).toNat)
  case atStart => exact ⟨0, Nat.zero_le _, rfl, rfl, Below.refl _ _⟩
  case round =>
    obtain ⟨j, hj, rfl, rfl, hbel⟩ := hrel
    by_cases hlt : j < n
    · obtain ⟨b, o, rfl, hb, c0, c1⟩ := (HF.out.later hbel).at (i := j) (by rw [markLabs_length]; exact hlt)
      rw [markLabs_get] at c0 c1
      simp only [markB] at c0 c1
      have d0 := Later.cells c0
      have hne := Later.there wr
      have HC : Hid (wr.cell? ⟨b, o + j * 2 + 1, none⟩ = some (.string (mt (k + 2 * j + 1)))) := c1
      clear c0 c1
      go_wp2_with fail
      refine wp_region_later (by kernel_rfl) (by kernel_rfl) ?_
      repeat (go_big_quiet_step (first | (go_at_call 33; exact calls_later (markText_int _ (k + 2 * j) (by omega) _ (by omega) (by omega)))))
      refine wpQuiet_nil ?_
      rintro _ ⟨x, rfl⟩
      have d1 := Later.cells (x.cell HC.out)
      have hne2 := Later.there x.w'
      have HX : Hid (Below w.heap.size w x.w') := bto hbel x.h
      clear d0 hne HC hbel
      generalize x.w' = W at *
      clear x
      go_wp2_with fail
      refine wp_region_later (by kernel_rfl) (by kernel_rfl) ?_
      repeat (go_big_quiet_step (first | (go_at_call 33; exact calls_later (markText_int _ (k + 2 * j + 1) (by omega) _ (by omega) (by omega)))))
      refine wpQuiet_nil ?_
      rintro _ ⟨y, rfl⟩
      have HY : Hid (Below w.heap.size w y.w') := bto HX.out y.h
      clear d1 hne2
      generalize y.w' = W2 at *
      clear y
      go_wp2
      exact ⟨⟨j + 1, by omega, by go_num, by go_num, HY.out⟩, by simp [intOf]; omega⟩
    · go_wp2
      go_ret
      have e : j = n := by omega
      subst e
      exact ⟨ret_int (by omega), hbel⟩
end Go.Proofs.YteohobkigjmjlaaDoor
