import Derived.Test.YtndaihhjhllfcadProg
import Derived.Test.YtndaihhjhllfcadBtw
import Derived.Test.YtndaihhjhllfcadShelf
namespace Go.Proofs.Ytndaihhjhllfcad
open Go.RowKit

def okM (marks : List UInt8) (c : UInt8) : Bool := (97 ≤ c && c ≤ 122) || (48 ≤ c && c ≤ 57) || decide (0 ≤ Lib.indexByte marks c)
def plainB (s : ByteArray) (most : Int) (marks : ByteArray) : Bool := decide (1 ≤ s.size) && decide ((s.size : Int) ≤ most) && s.data.toList.all (okM marks.data.toList)
theorem index_any (mk : ByteArray) (c : UInt8) (w : World) : Calls Try.prog 60 #[.string mk, .int .u8 (c.toNat : Int)] w fun e w' => e = .returned (.int .i64 (Lib.indexByte mk.data.toList c)) ∧ w' = w := by
  have := Try.strings_IndexByte mk (c.toNat : Int) w
  simpa using this
theorem all_take_succ {s : ByteArray} {f : UInt8 → Bool} {k : Nat} (h : k < s.size) : (s.data.toList.take (k + 1)).all f = ((s.data.toList.take k).all f && f s[k]) := by
  rw [take_snoc s k h]; simp
theorem all_not {l : List UInt8} {f : UInt8 → Bool} {k : Nat} (h : (l.take k).all f = false) : l.all f = false := by
  rw [Bool.eq_false_iff] at h ⊢
  intro h'
  apply h
  simp only [List.all_eq_true] at h' ⊢
  exact fun x hx => h' x (List.mem_of_mem_take hx)
theorem letter_eq (c : UInt8) : (97 ≤ c && c ≤ 122) = decide (97 ≤ (c.toNat : Int) ∧ (c.toNat : Int) ≤ 122) := by rw [Bool.eq_iff_iff]; simp [UInt8.le_iff_toNat_le]; omega
theorem digit_eq (c : UInt8) : (48 ≤ c && c ≤ 57) = decide (48 ≤ (c.toNat : Int) ∧ (c.toNat : Int) ≤ 57) := by rw [Bool.eq_iff_iff]; simp [UInt8.le_iff_toNat_le]; omega

set_option maxRecDepth 100000 in
set_option maxHeartbeats 2000000 in
theorem isPlain_any (s : ByteArray) (most : Int) (mk : ByteArray) (w : World) (hs : s.size ≤ maxLen) :
    Calls Try.prog 51 #[.string s, .int .i64 most, .string mk] w fun e w' => e = .returned (.bool (plainB s most mk)) ∧ w' = w := by
  unfold maxLen at hs
  by_cases h0 : (s.size : Int) < 1
  · have HN : Hid (plainB s most mk = false) := by show _ = _; simp [plainB]; omega
    go_enter Try.func51, Try.ntmps51
    go_wp2
    go_ret
    exact ⟨ret_bool HN.out.symm, rfl⟩
  by_cases h1 : most < (s.size : Int)
  · have HN : Hid (plainB s most mk = false) := by
      show _ = _
      have : decide ((s.size : Int) ≤ most) = false := by simp; omega
      simp [plainB, this]
    go_enter Try.func51, Try.ntmps51
    go_wp2
    go_ret
    exact ⟨ret_bool HN.out.symm, rfl⟩
  have HN : Hid (plainB s most mk = s.data.toList.all (okM mk.data.toList)) := by
    show _ = _
    have e1 : 1 ≤ s.size := by omega
    have e2 : (s.size : Int) ≤ most := by omega
    simp [plainB, e1, e2]
  go_enter Try.func51, Try.ntmps51
  go_wp2
  go_loop [7, 8, 20] (fun _ _ i => ∃ k : Nat, k ≤ s.size ∧ i = .int .i64 k ∧ (s.data.toList.take k).all (okM mk.data.toList) = true) (fun _ _ i => s.size - (intOf i).toNat)
  case atStart => exact ⟨0, Nat.zero_le _, rfl, by simp⟩
  case round =>
    obtain ⟨k, hk, rfl, hok⟩ := hrel
    have HOK : Hid ((s.data.toList.take k).all (okM mk.data.toList) = true) := hok
    clear hok
    by_cases hlt : k < s.size
    · have hsn := all_take_succ (f := okM mk.data.toList) hlt
      rw [HOK.out, Bool.true_and, okM, letter_eq, digit_eq] at hsn
      have HS : Hid ((s.data.toList.take (k + 1)).all (okM mk.data.toList) = (decide (97 ≤ (s[k].toNat : Int) ∧ (s[k].toNat : Int) ≤ 122) || decide (48 ≤ (s[k].toNat : Int) ∧ (s[k].toNat : Int) ≤ 57) || decide (0 ≤ Lib.indexByte mk.data.toList s[k]))) := hsn
      clear hsn
      have HX := fun W => index_any mk s[k] W
      generalize Lib.indexByte mk.data.toList s[k] = ix at *
      have HXX : Hid (∀ W, Calls Try.prog 60 #[.string mk, .int .u8 (s[k].toNat : Int)] W fun e w' => e = .returned (.int .i64 ix) ∧ w' = W) := HX
      clear HX
      go_wp2_with (go_at_call 60; refine (HXX.out _).mono ?_; rintro e w' ⟨rfl, rfl⟩)
      all_goals first
        | (go_ret
           refine ⟨ret_bool ?_, rfl⟩
           rw [HN.out]
           refine (all_not (k := k + 1) ?_).symm
           rw [HS.out]
           simp at *
           omega)
        | (refine ⟨⟨k + 1, by omega, by go_num, ?_⟩, by simp [intOf]; omega⟩
           rw [HS.out]
           simp at *
           omega)
    · go_wp2
      go_ret
      exact ⟨ret_bool (by rw [HN.out, ← HOK.out, List.take_of_length_le (by simp; omega)]), rfl⟩
end Go.Proofs.Ytndaihhjhllfcad
