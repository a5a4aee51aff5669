import Derived.Test.YtboofidegpnkaaaProg
import Derived.Test.YtboofidegpnkaaaJ23MarkT
import Derived.Test.YtboofidegpnkaaaJ01Btw
namespace Go.Proofs.Ytboofidegpnkaaa
open Go.RowKit

set_option maxRecDepth 100000 in
set_option maxHeartbeats 2000000 in
theorem markFileS_any (a : Option Addr) (cap : Nat) (fs : List FileD) (k B : Nat) (w : World) (hk : 0 < k) (hk2 : k + 3 * fs.length ≤ 100000000) (hf : Owned w B a fs) :
    Calls Try.prog 26 #[.slice a fs.length cap, .int .i64 (k : Int)] w fun e w' => e = .returned (.int .i64 ((k + 3 * fs.length : Nat) : Int)) ∧ Marked w w' B a fs.length ∧ Owned w' B a (markL k fs.length) := by
  have hf2 : Owned w B a fs ∧ (fs = [] ∨ 0 < fs.length) := ⟨hf, by rcases fs with _ | ⟨f, r⟩ <;> simp⟩
  have hf3 : fs = [] ∨ (0 < fs.length ∧ ∃ g o cur t, a = some ⟨g, o, none⟩ ∧ B ≤ g ∧ w.heap[g]? = some (.cells cur t (0, 0)) ∧ FilesAt w g o fs) := by
    rcases hf2.2 with h | h
    · exact Or.inl h
    · rcases hf2.1 with h' | h'
      · exact Or.inl h'
      · exact Or.inr ⟨h, h'⟩
  clear hf hf2
  rcases hf3 with rfl | ⟨hpos, g, o, cur, t, rfl, hB, hg, hfs⟩
  · go_enter Try.func26, Try.ntmps26
    go_wp2
    go_loopw [1, 5] (fun l i wr => l = .int .i64 (k : Int) ∧ i = .int .i64 0 ∧ wr = w) (fun _ i _ => 0)
    case atStart => exact ⟨rfl, rfl, rfl⟩
    case round =>
      obtain ⟨rfl, rfl, rfl⟩ := hrel
      go_wp2
      go_ret
      exact ⟨rfl, Or.inl ⟨rfl, Below.refl _ _⟩, Or.inl rfl⟩
  have hrow : ∀ j (hj : j < fs.length), RowFile cur o j fs[j] := rows_of_filesAt hg hfs
  have hsz := rows_size hrow
  have HG : Hid (Blk w g cur t) := hg
  clear hrow hg hfs
  generalize hn : fs.length = n at *
  have hsz2 : n = 0 ∨ o + n * 3 ≤ cur.size := by
    rcases hsz with h | h
    · left; rw [← hn, h]; rfl
    · exact Or.inr h
  clear hsz hn
  go_enter Try.func26, Try.ntmps26
  go_wp2
  go_loopw [1, 5] (fun l i wr => ∃ (j : Nat) (c : Array Value), j ≤ n ∧ i = .int .i64 j ∧ l = .int .i64 ((k + 3 * j : Nat) : Int) ∧ Blk wr g c t ∧ c.size = cur.size ∧ (∀ m, m < j → RowFile c o m (markF k m)) ∧ But g w wr) (fun _ i _ => n - (intOf i).toNat)
  case atStart => exact ⟨0, cur, Nat.zero_le _, rfl, rfl, HG.out, rfl, fun m h => absurd h (by omega), But.refl _ _⟩
  case round =>
    obtain ⟨j, c, hj, rfl, rfl, hblk, hcs, hrows, hbut⟩ := hrel
    have HBLK : Hid (Blk wr g c t) := hblk
    have HROWS : Hid (∀ m, m < j → RowFile c o m (markF k m)) := hrows
    have HCS : Hid (c.size = cur.size) := hcs
    clear hblk hrows
    by_cases hlt : j < n
    · have hbd : o + j * 3 + 2 < c.size := by rcases hsz2 with h | h <;> omega
      clear hcs hsz2
      go_wp2_with fail
      refine (markText_int _ (k + 3 * j) (by omega) _ (by omega) (by omega)).mono ?_
      rintro e w1 ⟨rfl, hb1⟩
      have hB1 := HBLK.out.later hb1
      obtain ⟨v0, d0⟩ := hB1.there (j := o + j * 3) (by omega)
      have f0 := hB1.free (o + j * 3)
      have HB1 : Hid (Blk w1 g c t) := hB1
      clear hB1
      go_wp2_with fail
      refine (markText_int _ (k + 3 * j + 1) (by omega) _ (by omega) (by omega)).mono ?_
      rintro e w2 ⟨rfl, hb2⟩
      have hB2 := (HB1.out.set (o + j * 3) (.string (mt (k + 3 * j)))).later hb2
      obtain ⟨v1, d1⟩ := hB2.there (j := o + j * 3 + 1) (by simp; omega)
      have f1 := hB2.free (o + j * 3 + 1)
      obtain ⟨v2, d2⟩ := hB2.there (j := o + j * 3 + 2) (by simp; omega)
      have f2 := hB2.free (o + j * 3 + 2)
      have HB2 : Hid (Blk w2 g (c.setIfInBounds (o + j * 3) (.string (mt (k + 3 * j)))) t) := hB2
      have HBUT : Hid (But g w w2) := ((hbut.trans (But.of hb1)).setCell _ _).trans (But.of hb2)
      clear hB2 d0 f0 hb1 hb2 hbut
      go_wp2
      refine ⟨⟨j + 1, _, by omega, by go_num, by go_num, (HB2.out.set (o + j * 3 + 1) (.string (mt (k + 3 * j + 1)))).set (o + j * 3 + 2) (.int .i64 ((k + 3 * j + 2 : Nat) : Int)), by simp [HCS.out], ?_, (HBUT.out.setCell _ _).setCell _ _⟩, by simp [intOf]; omega⟩
      intro m hm
      by_cases e : m = j
      · subst e
        exact RowFile.made c o m (markF k m) hbd
      · exact (((HROWS.out m (by omega)).set (by omega) _).set (by omega) _).set (by omega) _
    · go_wp2
      go_ret
      have e : j = n := by omega
      subst e
      refine ⟨ret_int (by omega), Or.inr ⟨hpos, g, o, rfl, hB, hbut⟩, Or.inr ⟨g, o, c, t, rfl, hB, HBLK.out, filesAt_of_rows HBLK.out ?_⟩⟩
      intro m hm
      rw [markL_get]
      exact HROWS.out m (by rw [markL_length] at hm; exact hm)
end Go.Proofs.Ytboofidegpnkaaa

namespace Go.Proofs.Ytboofidegpnkaaa
open Go.RowKit

theorem Marked.from {w w1 w' : World} {B n : Nat} {a : Option Addr} (hb : Below w.heap.size w w1) (h : Marked w1 w' B a n) : Marked w w' B a n := by
  rcases h with ⟨h0, h⟩ | ⟨hp, g, o, e, hB, h⟩
  · exact Or.inl ⟨h0, bto hb h⟩
  · exact Or.inr ⟨hp, g, o, e, hB, (But.of hb).trans h⟩

set_option maxHeartbeats 1000000 in
theorem markDisk_any (a : Option Addr) (cap : Nat) (fs : List FileD) (c k0 cr fl : Int) (dn : Bool) (k B : Nat) (w : World) (hk : 0 < k) (hk2 : k + 3 * fs.length ≤ 100000000) (hf : Owned w B a fs) :
    Calls Try.prog 11 #[.agg #[.slice a fs.length cap, .int .i64 c, .int .i64 k0, .int .i64 cr, .int .i64 fl, .bool dn], .int .i64 (k : Int)] w fun e w' =>
      e = .returned (.int .i64 ((k + 3 * fs.length : Nat) : Int)) ∧ Marked w w' B a fs.length ∧ Owned w' B a (markL k fs.length) := by
  have HF : Hid (Owned w B a fs) := hf
  clear hf
  go_enter Try.func11, Try.ntmps11
  go_wp2_with fail
  refine (markFileS_any a cap fs k B _ hk hk2 (HF.out.later (bnew _ _))).mono ?_
  rintro e w1 ⟨rfl, hm, ho⟩
  have HM : Hid (Marked w w1 B a fs.length ∧ Owned w1 B a (markL k fs.length)) := ⟨hm.from (bnew _ _), ho⟩
  clear hm ho
  go_wp2
  go_ret
  exact ⟨rfl, HM.out.1, HM.out.2⟩

set_option maxRecDepth 100000 in
set_option maxHeartbeats 2000000 in
theorem heldFileS_any (a : Option Addr) (cap : Nat) (k n : Nat) (w : World) (hk : 0 < k) (hk2 : k + 3 * n ≤ 100000000) (hf : FilesIn w a (markL k n)) :
    Calls Try.prog 27 #[.slice a n cap, .int .i64 (k : Int)] w fun e w' => e = .returned (.int .i64 ((k + 3 * n : Nat) : Int)) ∧ Below w.heap.size w w' := by
  have HF : Hid (FilesIn w a (markL k n)) := hf
  clear hf
  go_enter Try.func27, Try.ntmps27
  go_wp2
  go_loopw [1, 5] (fun l i wr => ∃ j : Nat, j ≤ n ∧ i = .int .i64 j ∧ l = .int .i64 ((k + 3 * j : Nat) : Int) ∧ Below w.heap.size w wr) (fun _ i _ => n - (intOf i).toNat)
  case atStart => exact ⟨0, Nat.zero_le _, rfl, rfl, Below.refl _ _⟩
  case round =>
    obtain ⟨j, hj, rfl, rfl, hbel⟩ := hrel
    by_cases hlt : j < n
    · obtain ⟨b, o, rfl, hb, c0, c1, c2⟩ := (HF.out.later hbel).at (i := j) (by rw [markL_length]; exact hlt)
      rw [markL_get] at c0 c1 c2
      simp only [markF] at c0 c1 c2
      have d0 := Later.cells c0
      have hne := Later.there wr
      have HC : Hid (wr.cell? ⟨b, o + j * 3 + 1, none⟩ = some (.string (mt (k + 3 * j + 1))) ∧ wr.cell? ⟨b, o + j * 3 + 2, none⟩ = some (.int .i64 ((k + 3 * j + 2 : Nat) : Int))) := ⟨c1, c2⟩
      clear c0 c1 c2
      go_wp2_with fail
      refine wp_region_later (by kernel_rfl) (by kernel_rfl) ?_
      repeat (go_big_quiet_step (first | (go_at_call 49; exact calls_later (markText_int _ (k + 3 * j) (by omega) _ (by omega) (by omega)))))
      refine wpQuiet_nil ?_
      rintro _ ⟨x, rfl⟩
      have d1 := Later.cells (x.cell HC.out.1)
      have d2 : ∀ y : Later x.w', y.w'.cell? ⟨b, o + j * 3 + 2, none⟩ = some (.int .i64 ((k : Int) + 3 * (j : Int) + 2)) := fun y => by rw [y.cell (x.cell HC.out.2)]; simp
      have hne2 := Later.there x.w'
      have HX : Hid (Below w.heap.size w x.w') := bto hbel x.h
      clear d0 hne HC hbel
      generalize x.w' = W at *
      clear x
      go_wp2_with fail
      refine wp_region_later (by kernel_rfl) (by kernel_rfl) ?_
      repeat (go_big_quiet_step (first | (go_at_call 49; exact calls_later (markText_int _ (k + 3 * j + 1) (by omega) _ (by omega) (by omega)))))
      refine wpQuiet_nil ?_
      rintro _ ⟨y, rfl⟩
      have e2 := d2 y
      have HY : Hid (Below w.heap.size w y.w') := bto HX.out y.h
      clear d1 d2 hne2
      generalize y.w' = W2 at *
      clear y
      go_wp2
      exact ⟨⟨j + 1, by omega, by go_num, by go_num, HY.out⟩, by simp [intOf]; omega⟩
    · go_wp2
      go_ret
      have e : j = n := by omega
      subst e
      exact ⟨ret_int (by omega), hbel⟩

set_option maxHeartbeats 1000000 in
theorem heldDisk_any (a : Option Addr) (cap : Nat) (c k0 cr fl : Int) (dn : Bool) (k n : Nat) (w : World) (hk : 0 < k) (hk2 : k + 3 * n ≤ 100000000) (hf : FilesIn w a (markL k n)) :
    Calls Try.prog 12 #[.agg #[.slice a n cap, .int .i64 c, .int .i64 k0, .int .i64 cr, .int .i64 fl, .bool dn], .int .i64 (k : Int)] w fun e w' =>
      e = .returned (.int .i64 ((k + 3 * n : Nat) : Int)) ∧ Below w.heap.size w w' := by
  have HF : Hid (FilesIn w a (markL k n)) := hf
  clear hf
  go_enter Try.func12, Try.ntmps12
  go_wp2_with fail
  refine (heldFileS_any a cap k n _ hk hk2 (HF.out.later (bnew _ _))).mono ?_
  rintro e w1 ⟨rfl, hb⟩
  have HB : Hid (Below w.heap.size w w1) := bto (bnew _ _) hb
  clear hb
  go_wp2
  go_ret
  exact ⟨ret_int (by omega), HB.out⟩
end Go.Proofs.Ytboofidegpnkaaa

namespace Go.Proofs.Ytboofidegpnkaaa
open Go.RowKit

set_option maxHeartbeats 400000 in
theorem szFile_any (f : FileD) (left : Int) (w : World) (h0 : 0 ≤ left) (h1 : left ≤ 1048576) (hn : f.name.size ≤ maxLen) (hd : f.data.size ≤ maxLen) :
    Calls Try.prog 28 #[.agg #[.string f.name, .string f.data, .int .i64 f.synced], .int .i64 left] w fun e w' => e = .returned (.int .i64 (szF left f)) ∧ Below w.heap.size w w' := by
  unfold maxLen at hn hd
  obtain ⟨nm, da, sy⟩ := f
  simp only at hn hd ⊢
  by_cases c1 : left - nm.size < 0
  · have e : szF left ⟨nm, da, sy⟩ = -1 := by unfold szF; rw [if_neg]; simp only; omega
    rw [e]
    go_enter Try.func28, Try.ntmps28
    go_wp2
    go_ret
    exact ⟨rfl, (Below.refl _ _).alloc (Nat.le_refl _) _⟩
  · by_cases c2 : left - nm.size - da.size < 0
    · have e : szF left ⟨nm, da, sy⟩ = -1 := by unfold szF; rw [if_neg]; simp only; omega
      rw [e]
      go_enter Try.func28, Try.ntmps28
      go_wp2
      go_ret
      exact ⟨rfl, (Below.refl _ _).alloc (Nat.le_refl _) _⟩
    · have e : szF left ⟨nm, da, sy⟩ = left - nm.size - da.size := by unfold szF; rw [if_pos]; simp only; omega
      rw [e]
      go_enter Try.func28, Try.ntmps28
      go_wp2
      go_ret
      exact ⟨rfl, (Below.refl _ _).alloc (Nat.le_refl _) _⟩

set_option maxHeartbeats 1000000 in
theorem szFileS_any (a : Option Addr) (cap : Nat) (fs : List FileD) (left : Int) (w : World) (h0 : 0 ≤ left) (h1 : left ≤ 1048576) (hf : FilesIn w a fs) (hs : Short fs) (hlen : fs.length ≤ maxLen) :
    Calls Try.prog 13 #[.slice a fs.length cap, .int .i64 left] w fun e w' => e = .returned (.int .i64 (szFs left fs)) ∧ Below w.heap.size w w' := by
  unfold maxLen at hlen
  by_cases c1 : left - fs.length < 0
  · have e : szFs left fs = -1 := by unfold szFs; rw [if_neg]; omega
    rw [e]
    clear hf hs
    go_enter Try.func13, Try.ntmps13
    go_wp2
    go_ret
    exact ⟨rfl, Below.refl _ _⟩
  · have hne : ¬ (left - fs.length < 0) := c1
    have HF : Hid (FilesIn w a fs) := hf
    have HS : Hid (Short fs) := hs
    clear hf hs
    go_enter Try.func13, Try.ntmps13
    go_wp2
    go_loopw [1, 5] (fun l i wr => ∃ k : Nat, k ≤ fs.length ∧ i = .int .i64 k ∧ (bulk (fs.take k) : Int) ≤ left - fs.length ∧ l = .int .i64 (left - fs.length - bulk (fs.take k)) ∧ Below w.heap.size w wr) (fun _ i _ => fs.length - (intOf i).toNat)
    case atStart => exact ⟨0, Nat.zero_le _, rfl, by simp [bulk]; omega, by simp [bulk], Below.refl _ _⟩
    case round =>
      obtain ⟨k, hk, rfl, hle, rfl, hbel⟩ := hrel
      by_cases hlt : k < fs.length
      · obtain ⟨b, o, rfl, hb, c0, c1, c2⟩ := (HF.out.later hbel).at hlt
        have hss := HS.out k hlt
        have hts := bulk_take_succ fs k hlt
        have htl := bulk_take_le fs (k + 1)
        by_cases c3 : ((fs[k].name.size + fs[k].data.size : Nat) : Int) ≤ left - fs.length - bulk (fs.take k)
        · have e : szF (left - fs.length - bulk (fs.take k)) fs[k] = left - fs.length - bulk (fs.take (k + 1)) := by
            unfold szF; rw [if_pos (by omega), hts]; omega
          have E : Hid (szF (left - fs.length - bulk (fs.take k)) fs[k] = left - fs.length - bulk (fs.take (k + 1))) := e
          have hle2 : (bulk (fs.take (k + 1)) : Int) ≤ left - fs.length := by omega
          clear e hts
          go_wp2_with fail
          refine (szFile_any fs[k] _ _ (by omega) (by omega) hss.1 hss.2).mono ?_
          rintro e w' ⟨rfl, hb2⟩
          rw [E.out]
          go_wp2
          exact ⟨⟨k + 1, by omega, by go_num, hle2, rfl, hbel.trans (hb2.mono hbel.size)⟩, by simp [intOf]; omega⟩
        · have e : szF (left - fs.length - bulk (fs.take k)) fs[k] = -1 := by
            unfold szF; rw [if_neg (by omega)]
          have E : Hid (szF (left - fs.length - bulk (fs.take k)) fs[k] = -1) := e
          have E2 : Hid (szFs left fs = -1) := by show szFs left fs = -1; unfold szFs; rw [if_neg (by omega)]
          clear e hts
          go_wp2_with fail
          refine (szFile_any fs[k] _ _ (by omega) (by omega) hss.1 hss.2).mono ?_
          rintro e w' ⟨rfl, hb2⟩
          rw [E.out]
          go_wp2
          go_ret
          exact ⟨ret_int E2.out.symm, hbel.trans (hb2.mono hbel.size)⟩
      · go_wp2
        go_ret
        have e : fs.take k = fs := List.take_of_length_le (by omega)
        rw [e] at hle ⊢
        exact ⟨ret_int (by unfold szFs; rw [if_pos (by omega)]), hbel⟩

/-- A disk's value: the six cells. -/
abbrev diskV (a : Option Addr) (n cap : Nat) (c k cr fl : Int) (dn : Bool) : Value := .agg #[.slice a n cap, .int .i64 c, .int .i64 k, .int .i64 cr, .int .i64 fl, .bool dn]

set_option maxHeartbeats 400000 in
theorem szDisk_any (a : Option Addr) (cap : Nat) (fs : List FileD) (c k cr fl : Int) (dn : Bool) (left : Int) (w : World) (h0 : 0 ≤ left) (h1 : left ≤ 1048576) (hf : FilesIn w a fs) (hs : Short fs) (hlen : fs.length ≤ maxLen) :
    Calls Try.prog 4 #[.agg #[.slice a fs.length cap, .int .i64 c, .int .i64 k, .int .i64 cr, .int .i64 fl, .bool dn], .int .i64 left] w fun e w' => e = .returned (.int .i64 (szFs left fs)) ∧ Below w.heap.size w w' := by
  have HF : Hid (FilesIn w a fs) := hf
  clear hf
  by_cases c1 : szFs left fs < 0
  · have E : Hid (szFs left fs = -1) := by show szFs left fs = -1; unfold szFs at c1 ⊢; split at c1 <;> omega
    go_enter Try.func4, Try.ntmps4
    go_wp2_with fail
    refine (szFileS_any a cap fs left _ h0 h1 (HF.out.later ((Below.refl _ _).alloc (Nat.le_refl _) _)) hs hlen).mono ?_
    rintro e w' ⟨rfl, hb2⟩
    go_wp2
    go_ret
    exact ⟨ret_int E.out.symm, ((Below.refl _ _).alloc (Nat.le_refl _) _).trans (hb2.mono (by simp))⟩
  · go_enter Try.func4, Try.ntmps4
    go_wp2_with fail
    refine (szFileS_any a cap fs left _ h0 h1 (HF.out.later ((Below.refl _ _).alloc (Nat.le_refl _) _)) hs hlen).mono ?_
    rintro e w' ⟨rfl, hb2⟩
    go_wp2
    go_ret
    exact ⟨rfl, ((Below.refl _ _).alloc (Nat.le_refl _) _).trans (hb2.mono (by simp))⟩
end Go.Proofs.Ytboofidegpnkaaa

