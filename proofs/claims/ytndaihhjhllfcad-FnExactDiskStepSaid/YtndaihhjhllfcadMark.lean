import Derived.Test.YtndaihhjhllfcadProg
import Derived.Test.YtndaihhjhllfcadMarkT
namespace Go.Proofs.Ytndaihhjhllfcad
open Go.RowKit

set_option maxRecDepth 100000 in
set_option maxHeartbeats 2000000 in
theorem markFileS_any (a : Option Addr) (cap : Nat) (fs : List FileD) (k B : Nat) (w : World) (hk : 0 < k) (hk2 : k + 3 * fs.length ≤ 100000000) (hf : Owned w B a fs) :
    Calls Try.prog 26 #[.slice a fs.length cap, .int .i64 (k : Int)] w fun e w' => e = .returned (.int .i64 ((k + 3 * fs.length : Nat) : Int)) ∧ Marked w w' B a fs.length ∧ Owned w' B a (markL k fs.length) := by
  have hf2 : Owned w B a fs ∧ (fs = [] ∨ 0 < fs.length) := ⟨hf, by rcases fs with _ | ⟨f, r⟩ <;> simp⟩
  have hf3 : fs = [] ∨ (0 < fs.length ∧ ∃ g o cur t, a = some ⟨g, o, none⟩ ∧ B ≤ g ∧ w.heap[g]? = some (.cells cur t (0, 0)) ∧ FilesAt w g o fs) := by
    rcases hf2.2 with h | h
    · exact Or.inl h
    · rcases hf2.1 with h' | h'
      · exact Or.inl h'
      · exact Or.inr ⟨h, h'⟩
  clear hf hf2
  rcases hf3 with rfl | ⟨hpos, g, o, cur, t, rfl, hB, hg, hfs⟩
  · go_enter Try.func26, Try.ntmps26
    go_wp2
    go_loopw [1, 5] (fun l i wr => l = .int .i64 (k : Int) ∧ i = .int .i64 0 ∧ wr = w) (fun _ i _ => 0)
    case atStart => exact ⟨rfl, rfl, rfl⟩
    case round =>
      obtain ⟨rfl, rfl, rfl⟩ := hrel
      go_wp2
      go_ret
      exact ⟨rfl, Or.inl ⟨rfl, Below.refl _ _⟩, Or.inl rfl⟩
  have hrow : ∀ j (hj : j < fs.length), RowFile cur o j fs[j] := rows_of_filesAt hg hfs
  have hsz := rows_size hrow
  have HG : Hid (Blk w g cur t) := hg
  clear hrow hg hfs
  generalize hn : fs.length = n at *
  have hsz2 : n = 0 ∨ o + n * 3 ≤ cur.size := by
    rcases hsz with h | h
    · left; rw [← hn, h]; rfl
    · exact Or.inr h
  clear hsz hn
  go_enter Try.func26, Try.ntmps26
  go_wp2
  go_loopw [1, 5] (fun l i wr => ∃ (j : Nat) (c : Array Value), j ≤ n ∧ i = .int .i64 j ∧ l = .int .i64 ((k + 3 * j : Nat) : Int) ∧ Blk wr g c t ∧ c.size = cur.size ∧ (∀ m, m < j → RowFile c o m (markF k m)) ∧ But g w wr) (fun _ i _ => n - (intOf i).toNat)
  case atStart => exact ⟨0, cur, Nat.zero_le _, rfl, rfl, HG.out, rfl, fun m h => absurd h (by omega), But.refl _ _⟩
  case round =>
    obtain ⟨j, c, hj, rfl, rfl, hblk, hcs, hrows, hbut⟩ := hrel
    have HBLK : Hid (Blk wr g c t) := hblk
    have HROWS : Hid (∀ m, m < j → RowFile c o m (markF k m)) := hrows
    have HCS : Hid (c.size = cur.size) := hcs
    clear hblk hrows
    by_cases hlt : j < n
    · have hbd : o + j * 3 + 2 < c.size := by rcases hsz2 with h | h <;> omega
      clear hcs hsz2
      go_wp2_with fail
      refine (markText_int _ (k + 3 * j) (by omega) _ (by omega) (by omega)).mono ?_
      rintro e w1 ⟨rfl, hb1⟩
      have hB1 := HBLK.out.later hb1
      obtain ⟨v0, d0⟩ := hB1.there (j := o + j * 3) (by omega)
      have f0 := hB1.free (o + j * 3)
      have HB1 : Hid (Blk w1 g c t) := hB1
      clear hB1
      go_wp2_with fail
      refine (markText_int _ (k + 3 * j + 1) (by omega) _ (by omega) (by omega)).mono ?_
      rintro e w2 ⟨rfl, hb2⟩
      have hB2 := (HB1.out.set (o + j * 3) (.string (mt (k + 3 * j)))).later hb2
      obtain ⟨v1, d1⟩ := hB2.there (j := o + j * 3 + 1) (by simp; omega)
      have f1 := hB2.free (o + j * 3 + 1)
      obtain ⟨v2, d2⟩ := hB2.there (j := o + j * 3 + 2) (by simp; omega)
      have f2 := hB2.free (o + j * 3 + 2)
      have HB2 : Hid (Blk w2 g (c.setIfInBounds (o + j * 3) (.string (mt (k + 3 * j)))) t) := hB2
      have HBUT : Hid (But g w w2) := ((hbut.trans (But.of hb1)).setCell _ _).trans (But.of hb2)
      clear hB2 d0 f0 hb1 hb2 hbut
      go_wp2
      refine ⟨⟨j + 1, _, by omega, by go_num, by go_num, (HB2.out.set (o + j * 3 + 1) (.string (mt (k + 3 * j + 1)))).set (o + j * 3 + 2) (.int .i64 ((k + 3 * j + 2 : Nat) : Int)), by simp [HCS.out], ?_, (HBUT.out.setCell _ _).setCell _ _⟩, by simp [intOf]; omega⟩
      intro m hm
      by_cases e : m = j
      · subst e
        exact RowFile.made c o m (markF k m) hbd
      · exact (((HROWS.out m (by omega)).set (by omega) _).set (by omega) _).set (by omega) _
    · go_wp2
      go_ret
      have e : j = n := by omega
      subst e
      refine ⟨ret_int (by omega), Or.inr ⟨hpos, g, o, rfl, hB, hbut⟩, Or.inr ⟨g, o, c, t, rfl, hB, HBLK.out, filesAt_of_rows HBLK.out ?_⟩⟩
      intro m hm
      rw [markL_get]
      exact HROWS.out m (by rw [markL_length] at hm; exact hm)
end Go.Proofs.Ytndaihhjhllfcad
