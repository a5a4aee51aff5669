import Derived.Test.YtndaihhjhllfcadProg
import Derived.Test.YtndaihhjhllfcadMark
namespace Go.Proofs.Ytndaihhjhllfcad
open Go.RowKit

theorem Marked.from {w w1 w' : World} {B n : Nat} {a : Option Addr} (hb : Below w.heap.size w w1) (h : Marked w1 w' B a n) : Marked w w' B a n := by
  rcases h with ⟨h0, h⟩ | ⟨hp, g, o, e, hB, h⟩
  · exact Or.inl ⟨h0, bto hb h⟩
  · exact Or.inr ⟨hp, g, o, e, hB, (But.of hb).trans h⟩

set_option maxHeartbeats 1000000 in
theorem markDisk_any (a : Option Addr) (cap : Nat) (fs : List FileD) (c k0 cr fl : Int) (dn : Bool) (k B : Nat) (w : World) (hk : 0 < k) (hk2 : k + 3 * fs.length ≤ 100000000) (hf : Owned w B a fs) :
    Calls Try.prog 11 #[.agg #[.slice a fs.length cap, .int .i64 c, .int .i64 k0, .int .i64 cr, .int .i64 fl, .bool dn], .int .i64 (k : Int)] w fun e w' =>
      e = .returned (.int .i64 ((k + 3 * fs.length : Nat) : Int)) ∧ Marked w w' B a fs.length ∧ Owned w' B a (markL k fs.length) := by
  have HF : Hid (Owned w B a fs) := hf
  clear hf
  go_enter Try.func11, Try.ntmps11
  go_wp2_with fail
  refine (markFileS_any a cap fs k B _ hk hk2 (HF.out.later (bnew _ _))).mono ?_
  rintro e w1 ⟨rfl, hm, ho⟩
  have HM : Hid (Marked w w1 B a fs.length ∧ Owned w1 B a (markL k fs.length)) := ⟨hm.from (bnew _ _), ho⟩
  clear hm ho
  go_wp2
  go_ret
  exact ⟨rfl, HM.out.1, HM.out.2⟩

set_option maxRecDepth 100000 in
set_option maxHeartbeats 2000000 in
theorem heldFileS_any (a : Option Addr) (cap : Nat) (k n : Nat) (w : World) (hk : 0 < k) (hk2 : k + 3 * n ≤ 100000000) (hf : FilesIn w a (markL k n)) :
    Calls Try.prog 27 #[.slice a n cap, .int .i64 (k : Int)] w fun e w' => e = .returned (.int .i64 ((k + 3 * n : Nat) : Int)) ∧ Below w.heap.size w w' := by
  have HF : Hid (FilesIn w a (markL k n)) := hf
  clear hf
  go_enter Try.func27, Try.ntmps27
  go_wp2
  go_loopw [1, 5] (fun l i wr => ∃ j : Nat, j ≤ n ∧ i = .int .i64 j ∧ l = .int .i64 ((k + 3 * j : Nat) : Int) ∧ Below w.heap.size w wr) (fun _ i _ => n - (intOf i).toNat)
  case atStart => exact ⟨0, Nat.zero_le _, rfl, rfl, Below.refl _ _⟩
  case round =>
    obtain ⟨j, hj, rfl, rfl, hbel⟩ := hrel
    by_cases hlt : j < n
    · obtain ⟨b, o, rfl, hb, c0, c1, c2⟩ := (HF.out.later hbel).at (i := j) (by rw [markL_length]; exact hlt)
      rw [markL_get] at c0 c1 c2
      simp only [markF] at c0 c1 c2
      have d0 := Later.cells c0
      have hne := Later.there wr
      have HC : Hid (wr.cell? ⟨b, o + j * 3 + 1, none⟩ = some (.string (mt (k + 3 * j + 1))) ∧ wr.cell? ⟨b, o + j * 3 + 2, none⟩ = some (.int .i64 ((k + 3 * j + 2 : Nat) : Int))) := ⟨c1, c2⟩
      clear c0 c1 c2
      go_wp2_with fail
      refine wp_region_later (by kernel_rfl) (by kernel_rfl) ?_
      repeat (go_big_quiet_step (first | (go_at_call 49; exact calls_later (markText_int _ (k + 3 * j) (by omega) _ (by omega) (by omega)))))
      refine wpQuiet_nil ?_
      rintro _ ⟨x, rfl⟩
      have d1 := Later.cells (x.cell HC.out.1)
      have d2 : ∀ y : Later x.w', y.w'.cell? ⟨b, o + j * 3 + 2, none⟩ = some (.int .i64 ((k : Int) + 3 * (j : Int) + 2)) := fun y => by rw [y.cell (x.cell HC.out.2)]; simp
      have hne2 := Later.there x.w'
      have HX : Hid (Below w.heap.size w x.w') := bto hbel x.h
      clear d0 hne HC hbel
      generalize x.w' = W at *
      clear x
      go_wp2_with fail
      refine wp_region_later (by kernel_rfl) (by kernel_rfl) ?_
      repeat (go_big_quiet_step (first | (go_at_call 49; exact calls_later (markText_int _ (k + 3 * j + 1) (by omega) _ (by omega) (by omega)))))
      refine wpQuiet_nil ?_
      rintro _ ⟨y, rfl⟩
      have e2 := d2 y
      have HY : Hid (Below w.heap.size w y.w') := bto HX.out y.h
      clear d1 d2 hne2
      generalize y.w' = W2 at *
      clear y
      go_wp2
      exact ⟨⟨j + 1, by omega, by go_num, by go_num, HY.out⟩, by simp [intOf]; omega⟩
    · go_wp2
      go_ret
      have e : j = n := by omega
      subst e
      exact ⟨ret_int (by omega), hbel⟩

set_option maxHeartbeats 1000000 in
theorem heldDisk_any (a : Option Addr) (cap : Nat) (c k0 cr fl : Int) (dn : Bool) (k n : Nat) (w : World) (hk : 0 < k) (hk2 : k + 3 * n ≤ 100000000) (hf : FilesIn w a (markL k n)) :
    Calls Try.prog 12 #[.agg #[.slice a n cap, .int .i64 c, .int .i64 k0, .int .i64 cr, .int .i64 fl, .bool dn], .int .i64 (k : Int)] w fun e w' =>
      e = .returned (.int .i64 ((k + 3 * n : Nat) : Int)) ∧ Below w.heap.size w w' := by
  have HF : Hid (FilesIn w a (markL k n)) := hf
  clear hf
  go_enter Try.func12, Try.ntmps12
  go_wp2_with fail
  refine (heldFileS_any a cap k n _ hk hk2 (HF.out.later (bnew _ _))).mono ?_
  rintro e w1 ⟨rfl, hb⟩
  have HB : Hid (Below w.heap.size w w1) := bto (bnew _ _) hb
  clear hb
  go_wp2
  go_ret
  exact ⟨ret_int (by omega), HB.out⟩
end Go.Proofs.Ytndaihhjhllfcad
