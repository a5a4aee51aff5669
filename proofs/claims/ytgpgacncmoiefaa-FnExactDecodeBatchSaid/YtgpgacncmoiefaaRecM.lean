import Derived.Test.YtgpgacncmoiefaaProg
import Derived.Test.YtgpgacncmoiefaaRecB
import Derived.Test.YtgpgacncmoiefaaMarkT
namespace Go.Proofs.Ytgpgacncmoiefaa
open Go.RowKit

def markRc (k : Nat) (i : Nat) : RecD := ⟨((k + 4 * i : Nat) : Int), mt (k + 4 * i + 1), mt (k + 4 * i + 2), ((k + 4 * i + 3 : Nat) : Int)⟩
def markRecs (k n : Nat) : List RecD := (List.range n).map (markRc k)
theorem markRecs_length (k n : Nat) : (markRecs k n).length = n := by simp [markRecs]
theorem markRecs_get (k n i : Nat) (h : i < (markRecs k n).length) : (markRecs k n)[i] = markRc k i := by simp [markRecs]

set_option maxRecDepth 100000 in
set_option maxHeartbeats 2000000 in
theorem markRecS_any (a : Option Addr) (cap : Nat) (fs : List RecD) (k B : Nat) (w : World) (hk : 0 < k) (hk2 : k + 4 * fs.length ≤ 100000000) (hf : RecsOwn w B a fs) :
    Calls Try.prog 59 #[.slice a fs.length cap, .int .i64 (k : Int)] w fun e w' => e = .returned (.int .i64 ((k + 4 * fs.length : Nat) : Int)) ∧ Marked w w' B a fs.length ∧ RecsOwn w' B a (markRecs k fs.length) := by
  have hf3 : fs = [] ∨ (0 < fs.length ∧ ∃ g o cur t, a = some ⟨g, o, none⟩ ∧ B ≤ g ∧ w.heap[g]? = some (.cells cur t (0, 0)) ∧ RecsAt w g o fs) := by
    by_cases h0 : fs = []
    · exact Or.inl h0
    · rcases hf with h | h
      · exact Or.inl h
      · exact Or.inr ⟨List.length_pos_iff.2 h0, h⟩
  clear hf
  rcases hf3 with rfl | ⟨hpos, g, o, cur, t, rfl, hB, hg, hfs⟩
  · go_enter Try.func59, Try.ntmps59
    go_wp2
    go_loopw [1, 5] (fun l i wr => l = .int .i64 (k : Int) ∧ i = .int .i64 0 ∧ wr = w) (fun _ i _ => 0)
    case atStart => exact ⟨rfl, rfl, rfl⟩
    case round =>
      obtain ⟨rfl, rfl, rfl⟩ := hrel
      go_wp2
      go_ret
      exact ⟨rfl, Or.inl ⟨rfl, Below.refl _ _⟩, Or.inl rfl⟩
  have hrow : ∀ j (hj : j < fs.length), RowRec cur o j fs[j] := rows_of_recsAt hg hfs
  have hsz2 := recs_size hrow
  have HG : Hid (Blk w g cur t) := hg
  clear hrow hg hfs
  generalize fs.length = n at *
  go_enter Try.func59, Try.ntmps59
  go_wp2
  go_loopw [1, 5] (fun l i wr => ∃ (j : Nat) (c : Array Value), j ≤ n ∧ i = .int .i64 j ∧ l = .int .i64 ((k + 4 * j : Nat) : Int) ∧ Blk wr g c t ∧ c.size = cur.size ∧ (∀ m, m < j → RowRec c o m (markRc k m)) ∧ But g w wr) (fun _ i _ => n - (intOf i).toNat)
  case atStart => exact ⟨0, cur, Nat.zero_le _, rfl, rfl, HG.out, rfl, fun m h => absurd h (by omega), But.refl _ _⟩
  case round =>
    obtain ⟨j, c, hj, rfl, rfl, hblk, hcs, hrows, hbut⟩ := hrel
    have HBLK : Hid (Blk wr g c t) := hblk
    have HROWS : Hid (∀ m, m < j → RowRec c o m (markRc k m)) := hrows
    have HCS : Hid (c.size = cur.size) := hcs
    clear hblk hrows
    by_cases hlt : j < n
    · have hbd : o + j * 4 + 3 < c.size := by rcases hsz2 with h | h <;> omega
      clear hcs hsz2
      obtain ⟨v0, d0⟩ := HBLK.out.there (j := o + j * 4) (by omega)
      have f0 := HBLK.out.free (o + j * 4)
      go_wp2_with fail
      refine (markText_int _ (k + 4 * j + 1) (by omega) _ (by omega) (by omega)).mono ?_
      rintro e w1 ⟨rfl, hb1⟩
      have hB1 := (HBLK.out.set (o + j * 4) (.int .i64 ((k + 4 * j : Nat) : Int))).later hb1
      have HBU1 : Hid (But g w w1) := (hbut.setCell _ _).trans (But.of hb1)
      obtain ⟨v1, d1⟩ := hB1.there (j := o + j * 4 + 1) (by simp; omega)
      have f1 := hB1.free (o + j * 4 + 1)
      have HB1 : Hid (Blk w1 g (c.setIfInBounds (o + j * 4) (.int .i64 ((k + 4 * j : Nat) : Int))) t) := hB1
      clear hB1 hb1 hbut d0 f0
      go_wp2_with fail
      refine (markText_int _ (k + 4 * j + 2) (by omega) _ (by omega) (by omega)).mono ?_
      rintro e w2 ⟨rfl, hb2⟩
      have hB2 := (HB1.out.set (o + j * 4 + 1) (.string (mt (k + 4 * j + 1)))).later hb2
      have HBU2 : Hid (But g w w2) := (HBU1.out.setCell _ _).trans (But.of hb2)
      obtain ⟨v2, d2⟩ := hB2.there (j := o + j * 4 + 2) (by simp; omega)
      have f2 := hB2.free (o + j * 4 + 2)
      obtain ⟨v3, d3⟩ := hB2.there (j := o + j * 4 + 3) (by simp; omega)
      have f3 := hB2.free (o + j * 4 + 3)
      have HB2 : Hid (Blk w2 g ((c.setIfInBounds (o + j * 4) (.int .i64 ((k + 4 * j : Nat) : Int))).setIfInBounds (o + j * 4 + 1) (.string (mt (k + 4 * j + 1)))) t) := hB2
      clear hB2 d1 f1 hb2
      go_wp2
      refine ⟨⟨j + 1, _, by omega, by go_num, by go_num, (HB2.out.set (o + j * 4 + 2) (.string (mt (k + 4 * j + 2)))).set (o + j * 4 + 3) (.int .i64 ((k + 4 * j + 3 : Nat) : Int)), by simp [HCS.out], ?_, (HBU2.out.setCell _ _).setCell _ _⟩, by simp [intOf]; omega⟩
      intro m hm
      by_cases e : m = j
      · subst e
        exact RowRec.made c o m (markRc k m) hbd
      · exact ((((HROWS.out m (by omega)).set (by omega) _).set (by omega) _).set (by omega) _).set (by omega) _
    · go_wp2
      go_ret
      have e : j = n := by omega
      subst e
      refine ⟨ret_int (by omega), Or.inr ⟨hpos, g, o, rfl, hB, hbut⟩, Or.inr ⟨g, o, c, t, rfl, hB, HBLK.out, recsAt_of_rows HBLK.out ?_⟩⟩
      intro m hm
      rw [markRecs_get]
      exact HROWS.out m (by rw [markRecs_length] at hm; exact hm)

set_option maxRecDepth 100000 in
set_option maxHeartbeats 2000000 in
theorem heldRecS_any (a : Option Addr) (cap : Nat) (k n : Nat) (w : World) (hk : 0 < k) (hk2 : k + 4 * n ≤ 100000000) (hf : RecsIn w a (markRecs k n)) :
    Calls Try.prog 60 #[.slice a n cap, .int .i64 (k : Int)] w fun e w' => e = .returned (.int .i64 ((k + 4 * n : Nat) : Int)) ∧ Below w.heap.size w w' := by
  have HF : Hid (RecsIn w a (markRecs k n)) := hf
  clear hf
  go_enter Try.func60, Try.ntmps60
  go_wp2
  go_loopw [1, 5] (fun l i wr => ∃ j : Nat, j ≤ n ∧ i = .int .i64 j ∧ l = .int .i64 ((k + 4 * j : Nat) : Int) ∧ Below w.heap.size w wr) (fun _ i _ => n - (intOf i).toNat)
  case atStart => exact ⟨0, Nat.zero_le _, rfl, rfl, Below.refl _ _⟩
  case round =>
    obtain ⟨j, hj, rfl, rfl, hbel⟩ := hrel
    by_cases hlt : j < n
    · obtain ⟨b, o, rfl, hb, c0, c1, c2, c3⟩ := (HF.out.later hbel).at (i := j) (by rw [markRecs_length]; exact hlt)
      rw [markRecs_get] at c0 c1 c2 c3
      simp only [markRc] at c0 c1 c2 c3
      have d0 := Later.cells c0
      have d1 := Later.cells c1
      have HC : Hid (wr.cell? ⟨b, o + j * 4 + 2, none⟩ = some (.string (mt (k + 4 * j + 2))) ∧ wr.cell? ⟨b, o + j * 4 + 3, none⟩ = some (.int .i64 ((k + 4 * j + 3 : Nat) : Int))) := ⟨c2, c3⟩
      have hne := Later.there wr
      clear c1 c2 c3
      go_wp2_with fail
      refine wp_region_later (by kernel_rfl) (by kernel_rfl) ?_
      repeat (go_big_quiet_step (first | (go_at_call 40; exact calls_later (markText_int _ (k + 4 * j + 1) (by omega) _ (by omega) (by omega)))))
      refine wpQuiet_nil ?_
      rintro _ ⟨x, rfl⟩
      have HX : Hid (Below w.heap.size w x.w') := bto hbel x.h
      have d2 := Later.cells (x.cell HC.out.1)
      have HC3 : Hid (x.w'.cell? ⟨b, o + j * 4 + 3, none⟩ = some (.int .i64 ((k + 4 * j + 3 : Nat) : Int))) := x.cell HC.out.2
      have hne2 := Later.there x.w'
      clear c0 d0 d1 hne HC hbel
      generalize x.w' = W at *
      clear x
      go_wp2_with fail
      refine wp_region_later (by kernel_rfl) (by kernel_rfl) ?_
      repeat (go_big_quiet_step (first | (go_at_call 40; exact calls_later (markText_int _ (k + 4 * j + 2) (by omega) _ (by omega) (by omega)))))
      refine wpQuiet_nil ?_
      rintro _ ⟨y, rfl⟩
      have HY : Hid (Below w.heap.size w y.w') := bto HX.out y.h
      have c3 := y.cell HC3.out
      clear d2 hne2 HC3
      generalize y.w' = W2 at *
      clear y
      go_wp2
      exact ⟨⟨j + 1, by omega, by go_num, by go_num, HY.out⟩, by simp [intOf]; omega⟩
    · go_wp2
      go_ret
      have e : j = n := by omega
      subst e
      exact ⟨ret_int (by omega), hbel⟩

set_option maxRecDepth 100000 in
theorem markBatch_any (lsn : Int) (a : Option Addr) (cap : Nat) (fs : List RecD) (k B : Nat) (w : World) (hk : 0 < k) (hk2 : k + 4 * fs.length ≤ 100000000) (hf : RecsOwn w B a fs) :
    Calls Try.prog 25 #[.agg #[.int .i64 lsn, .slice a fs.length cap], .int .i64 (k : Int)] w fun e w' => e = .returned (.int .i64 ((k + 4 * fs.length : Nat) : Int)) ∧ (∃ W, Below w.heap.size w W ∧ Marked W w' B a fs.length) ∧ RecsOwn w' B a (markRecs k fs.length) := by
  have HC : Hid (∀ W, Below w.heap.size w W → Calls Try.prog 59 #[.slice a fs.length cap, .int .i64 (k : Int)] W fun e w' => e = .returned (.int .i64 ((k + 4 * fs.length : Nat) : Int)) ∧ Marked W w' B a fs.length ∧ RecsOwn w' B a (markRecs k fs.length)) := fun W h => markRecS_any a cap fs k B W hk hk2 (hf.later h)
  clear hf
  generalize ((k + 4 * fs.length : Nat) : Int) = N at *
  generalize markRecs k fs.length = M at *
  generalize fs.length = n at *
  go_enter Try.func25, Try.ntmps25
  go_wp2_with fail
  refine (HC.out _ (bnew _ _)).mono ?_
  rintro e w1 ⟨rfl, h1, h2⟩
  have H1 : Hid ((∃ W, Below w.heap.size w W ∧ Marked W w1 B a n) ∧ RecsOwn w1 B a M) := ⟨⟨_, bnew _ _, h1⟩, h2⟩
  clear h1 h2
  go_wp2
  go_ret
  exact ⟨rfl, H1.out⟩
set_option maxRecDepth 100000 in
theorem heldBatch_any (lsn : Int) (a : Option Addr) (cap : Nat) (k n : Nat) (w : World) (hk : 0 < k) (hk2 : k + 4 * n ≤ 100000000) (hf : RecsIn w a (markRecs k n)) :
    Calls Try.prog 26 #[.agg #[.int .i64 lsn, .slice a n cap], .int .i64 (k : Int)] w fun e w' => e = .returned (.int .i64 ((k + 4 * n : Nat) : Int)) ∧ Below w.heap.size w w' := by
  have HC : Hid (∀ W, Below w.heap.size w W → Calls Try.prog 60 #[.slice a n cap, .int .i64 (k : Int)] W fun e w' => e = .returned (.int .i64 ((k + 4 * n : Nat) : Int)) ∧ Below W.heap.size W w') := fun W h => heldRecS_any a cap k n W hk hk2 (hf.later h)
  have hN : ¬ (((k + 4 * n : Nat) : Int) < 0) := by omega
  clear hf hk2
  generalize ((k + 4 * n : Nat) : Int) = N at *
  go_enter Try.func26, Try.ntmps26
  go_wp2_with fail
  refine (HC.out _ (bnew _ _)).mono ?_
  rintro e w1 ⟨rfl, h1⟩
  have H1 : Hid (Below w.heap.size w w1) := bto (bnew _ _) h1
  clear h1
  go_wp2
  go_ret
  exact ⟨rfl, H1.out⟩
end Go.Proofs.Ytgpgacncmoiefaa
