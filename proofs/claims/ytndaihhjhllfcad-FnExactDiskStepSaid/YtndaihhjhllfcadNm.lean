import Derived.Test.YtndaihhjhllfcadProg
import Derived.Test.YtndaihhjhllfcadBtw
import Derived.Test.YtndaihhjhllfcadPlain
namespace Go.Proofs.Ytndaihhjhllfcad
open Go.RowKit

theorem within_any (x hi : Int) (w : World) : Calls Try.prog 35 #[.int .i64 x, .int .i64 hi] w fun e w' => e = .returned (.bool (btwB x 0 hi)) ∧ w' = w := by
  by_cases h1 : 0 ≤ x
  · by_cases h2 : x ≤ hi
    · have e : btwB x 0 hi = true := by simp [btwB, h1, h2]
      rw [e]
      go_enter Try.func35, Try.ntmps35
      go_wp2
      go_ret
      exact ⟨rfl, rfl⟩
    · have e : btwB x 0 hi = false := by simp [btwB, h2]
      rw [e]
      go_enter Try.func35, Try.ntmps35
      go_wp2
      go_ret
      exact ⟨rfl, rfl⟩
  · have e : btwB x 0 hi = false := by simp [btwB, h1]
    rw [e]
    go_enter Try.func35, Try.ntmps35
    go_wp2
    go_ret
    exact ⟨rfl, rfl⟩

def okByte (c : UInt8) : Bool := (97 ≤ c && c ≤ 122) || (48 ≤ c && c ≤ 57) || c == 45 || c == 46
def okBytes (l : List UInt8) : Bool := l.all okByte
def nameB (s : ByteArray) : Bool := decide (1 ≤ s.size) && decide (s.size ≤ 40) && okBytes s.data.toList

theorem okBytes_snoc (l : List UInt8) (c : UInt8) : okBytes (l ++ [c]) = (okBytes l && okByte c) := by simp [okBytes]
theorem okBytes_not {l : List UInt8} {k : Nat} (h : okBytes (l.take k) = false) : okBytes l = false := by
  rw [Bool.eq_false_iff] at h ⊢
  intro h'
  apply h
  simp only [okBytes, List.all_eq_true] at h' ⊢
  intro x hx
  exact h' x (List.mem_of_mem_take hx)

theorem okByte_eq (c : UInt8) : okByte c = decide ((97 ≤ (c.toNat : Int) ∧ (c.toNat : Int) ≤ 122) ∨ (48 ≤ (c.toNat : Int) ∧ (c.toNat : Int) ≤ 57) ∨ (c.toNat : Int) = 45 ∨ (c.toNat : Int) = 46) := by
  have e45 : (c == 45) = decide (c.toNat = 45) := by rw [Bool.eq_iff_iff]; simp [← UInt8.toNat_inj]
  have e46 : (c == 46) = decide (c.toNat = 46) := by rw [Bool.eq_iff_iff]; simp [← UInt8.toNat_inj]
  rw [Bool.eq_iff_iff]
  simp [okByte, e45, e46, UInt8.le_iff_toNat_le]
  omega

set_option maxHeartbeats 1000000 in
theorem l1FileName_any (s : ByteArray) (w : World) (hs : s.size ≤ maxLen) :
    Calls Try.prog 16 #[.string s] w fun e w' => e = .returned (.bool (nameB s)) ∧ w' = w := by
  unfold maxLen at hs
  by_cases h1 : 1 ≤ s.size ∧ s.size ≤ 40
  · have hB : btwB (s.size : Int) 1 40 = true := by unfold btwB; simp; omega
    have HN : Hid (nameB s = okBytes s.data.toList) := by show nameB s = _; simp [nameB, h1.1, h1.2]
    have hl := h1.1
    have hu := h1.2
    clear h1
    go_enter Try.func16, Try.ntmps16
    go_wp2_with (go_at_call 15; refine (between_any _ _ _ _).mono ?_; rintro e w' ⟨rfl, rfl⟩)
    go_loop [3, 4] (fun i _ => ∃ k : Nat, k ≤ s.size ∧ i = .int .i64 k ∧ okBytes (s.data.toList.take k) = true) (fun i _ => s.size - (intOf i).toNat)
    case atStart => exact ⟨0, Nat.zero_le _, rfl, by simp [okBytes]⟩
    case round =>
      obtain ⟨k, hk, rfl, hok⟩ := hrel
      have HOK : Hid (okBytes (s.data.toList.take k) = true) := hok
      clear hok hB
      by_cases hlt : k < s.size
      · have hsn := okBytes_snoc (s.data.toList.take k) s[k]
        rw [← take_snoc s k hlt, HOK.out, Bool.true_and, okByte_eq] at hsn
        have HS : Hid (okBytes (s.data.toList.take (k + 1)) = decide ((97 ≤ (s[k].toNat : Int) ∧ (s[k].toNat : Int) ≤ 122) ∨ (48 ≤ (s[k].toNat : Int) ∧ (s[k].toNat : Int) ≤ 57) ∨ (s[k].toNat : Int) = 45 ∨ (s[k].toNat : Int) = 46)) := hsn
        clear hsn
        go_wp2
        all_goals first
          | (go_ret
             refine ⟨ret_bool ?_, rfl⟩
             rw [HN.out]
             refine (okBytes_not (k := k + 1) ?_).symm
             rw [HS.out, decide_eq_false_iff_not]
             simp at *
             omega)
          | (refine ⟨⟨k + 1, by omega, by go_num, ?_⟩, by simp [intOf]; omega⟩
             rw [HS.out, decide_eq_true_iff]
             simp at *
             omega)
      · go_wp2
        go_ret
        exact ⟨ret_bool (by rw [HN.out, ← HOK.out, List.take_of_length_le (by simp; omega)]), rfl⟩
  · have hB : btwB (s.size : Int) 1 40 = false := by unfold btwB; simp; omega
    have HN : Hid (nameB s = false) := by show nameB s = _; simp [nameB]; omega
    go_enter Try.func16, Try.ntmps16
    go_wp2_with (go_at_call 15; refine (between_any _ _ _ _).mono ?_; rintro e w' ⟨rfl, rfl⟩)
    go_ret
    exact ⟨ret_bool HN.out.symm, rfl⟩

theorem okByte_plain (c : UInt8) : okM [45, 46] c = okByte c := by
  have e : decide (0 ≤ Lib.indexByte [45, 46] c) = (c == 45 || c == 46) := by
    by_cases h : c = 45
    · subst h; rfl
    · by_cases h' : c = 46
      · subst h'; rfl
      · have h1 : ((45 : UInt8) == c) = false := by simpa using fun e => h e.symm
        have h2 : (c == 45) = false := by simpa using h
        have h3 : ((46 : UInt8) == c) = false := by simpa using fun e => h' e.symm
        have h4 : (c == 46) = false := by simpa using h'
        simp [Lib.indexByte, h1, h2, h3, h4]
  rw [okM, okByte, e, Bool.or_assoc (_ || _)]
theorem name_plain (s : ByteArray) : plainB s 40 ⟨#[45, 46]⟩ = nameB s := by
  have e : okM [45, 46] = okByte := funext okByte_plain
  rw [plainB, nameB, okBytes, e]
  congr 2
  rw [Bool.eq_iff_iff]; simp; omega
set_option maxRecDepth 100000 in
set_option maxHeartbeats 1000000 in
theorem isFileName_any (s : ByteArray) (w : World) (hs : s.size ≤ maxLen) :
    Calls Try.prog 37 #[.string s] w fun e w' => e = .returned (.bool (nameB s)) ∧ w' = w := by
  have H : Hid (∀ W, Calls Try.prog 51 #[.string s, .int .i64 40, .string ⟨#[45, 46]⟩] W fun e w' => e = .returned (.bool (nameB s)) ∧ w' = W) := fun W => name_plain s ▸ isPlain_any s 40 ⟨#[45, 46]⟩ W hs
  generalize nameB s = R at *
  go_enter Try.func37, Try.ntmps37
  go_wp2_with fail
  refine (H.out _).mono ?_
  rintro e w' ⟨rfl, hw⟩
  replace hw := hw.symm
  subst hw
  go_wp2
  go_ret
  exact ⟨rfl, rfl⟩

def fileB (f : FileD) : Bool := nameB f.name && btwB f.synced 0 f.data.size

set_option maxHeartbeats 1000000 in
theorem valid_any (b o : Nat) (f : FileD) (w : World) (c0 : w.cell? ⟨b, o, none⟩ = some (.string f.name)) (c1 : w.cell? ⟨b, o + 1, none⟩ = some (.string f.data)) (c2 : w.cell? ⟨b, o + 2, none⟩ = some (.int .i64 f.synced))
    (hn : f.name.size ≤ maxLen) :
    Calls Try.prog 50 #[.pointer (some ⟨b, o, none⟩)] w fun e w' => e = .returned (.bool (fileB f)) ∧ Below w.heap.size w w' := by
  have d0 := Later.cells c0
  have d1 := Later.cells c1
  have d2 := Later.cells c2
  have hne := Later.there w
  have hA := fun w' => isFileName_any f.name w' hn
  clear c0 c1 c2 hn
  by_cases h1 : nameB f.name = true
  · simp only [h1] at hA
    have hB := fun w' => within_any f.synced f.data.size w'
    have E : Hid (fileB f = btwB f.synced 0 f.data.size) := by show fileB f = _; simp [fileB, h1]
    clear h1
    go_enter Try.func50, Try.ntmps50
    go_wp2_with fail
    refine wp_region_later (by kernel_rfl) (by kernel_rfl) ?_
    repeat (go_big_quiet_step (first | (go_at_call 37; exact calls_later_same (hA _)) | (go_at_call 35; exact calls_later_same (hB _))))
    refine wpQuiet_nil ?_
    rintro _ ⟨x, rfl⟩
    go_wp2
    go_ret
    exact ⟨ret_bool E.out.symm, x.h⟩
  · have h1' : nameB f.name = false := by simpa using h1
    simp only [h1'] at hA
    have E : Hid (fileB f = false) := by show fileB f = _; simp [fileB, h1']
    clear h1 h1'
    go_enter Try.func50, Try.ntmps50
    go_wp2_with fail
    refine wp_region_later (by kernel_rfl) (by kernel_rfl) ?_
    repeat (go_big_quiet_step (first | (go_at_call 37; exact calls_later_same (hA _))))
    refine wpQuiet_nil ?_
    rintro _ ⟨x, rfl⟩
    go_wp2
    go_ret
    exact ⟨ret_bool E.out.symm, x.h⟩
end Go.Proofs.Ytndaihhjhllfcad
