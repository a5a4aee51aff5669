import Derived.Test.YtndaihhjhllfcadProg
import Derived.Test.YtndaihhjhllfcadBase
namespace Go.Proofs.Ytndaihhjhllfcad
open Go.RowKit

set_option maxHeartbeats 1000000 in
theorem bytesOf_any (a : Option Addr) (cap : Nat) (fs : List FileD) (w : World) (hf : FilesIn w a fs) (hlen : fs.length ≤ maxLen) (hsum : sumLen fs ≤ 1000000000) :
    Calls Try.prog 36 #[.slice a fs.length cap] w fun e w' => e = .returned (.int .i64 (sumLen fs)) ∧ Below w.heap.size w w' := by
  unfold maxLen at hlen
  have HF : Hid (FilesIn w a fs) := hf
  clear hf
  go_enter Try.func36, Try.ntmps36
  go_wp2
  go_loopw [3, 8, 5] (fun s i _ wr => ∃ k : Nat, k ≤ fs.length ∧ i = .int .i64 k ∧ s = .int .i64 (sumLen (fs.take k)) ∧ Below w.heap.size w wr) (fun _ i _ _ => fs.length - (intOf i).toNat)
  case atStart => exact ⟨0, Nat.zero_le _, rfl, rfl, Below.refl _ _⟩
  case round =>
    obtain ⟨k, hk, rfl, rfl, hbel⟩ := hrel
    have hl1 := sumLen_take_le fs k
    by_cases hlt : k < fs.length
    · obtain ⟨b, o, rfl, hb, c0, c1, c2⟩ := (HF.out.later hbel).at hlt
      have hts := sumLen_take_succ fs k hlt
      have htl := sumLen_take_le fs (k + 1)
      have hd : fs[k].data.size ≤ 1000000000 := by omega
      have HS : Hid (sumLen (fs.take (k + 1)) = sumLen (fs.take k) + fs[k].data.size) := hts
      clear hts
      go_wp2
      exact ⟨⟨k + 1, by omega, by go_num, by rw [HS.out]; go_num, hbel.alloc hbel.size _⟩, by simp [intOf]; omega⟩
    · go_wp2
      go_ret
      have e : fs.take k = fs := List.take_of_length_le (by omega)
      exact ⟨ret_int (by rw [e]), hbel⟩

set_option maxHeartbeats 1000000 in
theorem l1Bytes_any (a : Option Addr) (cap : Nat) (fs : List FileD) (c k0 cr fl : Int) (dn : Bool) (w : World) (hf : FilesIn w a fs) (hlen : fs.length ≤ maxLen) (hsum : sumLen fs ≤ 1000000000) :
    Calls Try.prog 29 #[.agg #[.slice a fs.length cap, .int .i64 c, .int .i64 k0, .int .i64 cr, .int .i64 fl, .bool dn]] w fun e w' => e = .returned (.int .i64 (sumLen fs)) ∧ Below w.heap.size w w' := by
  unfold maxLen at hlen
  have HF : Hid (FilesIn w a fs) := hf
  clear hf
  go_enter Try.func29, Try.ntmps29
  go_wp2
  go_loopw [3, 9, 5] (fun s i _ wr => ∃ k : Nat, k ≤ fs.length ∧ i = .int .i64 k ∧ s = .int .i64 (sumLen (fs.take k)) ∧ Below w.heap.size w wr) (fun _ i _ _ => fs.length - (intOf i).toNat)
  case atStart => exact ⟨0, Nat.zero_le _, rfl, rfl, (Below.refl _ _).alloc (Nat.le_refl _) _⟩
  case round =>
    obtain ⟨k, hk, rfl, rfl, hbel⟩ := hrel
    have hl1 := sumLen_take_le fs k
    by_cases hlt : k < fs.length
    · obtain ⟨b, o, rfl, hb, c0, c1, c2⟩ := (HF.out.later hbel).at hlt
      have hts := sumLen_take_succ fs k hlt
      have htl := sumLen_take_le fs (k + 1)
      have hd : fs[k].data.size ≤ 1000000000 := by omega
      have HS : Hid (sumLen (fs.take (k + 1)) = sumLen (fs.take k) + fs[k].data.size) := hts
      clear hts
      go_wp2
      exact ⟨⟨k + 1, by omega, by go_num, by rw [HS.out]; go_num, hbel.alloc hbel.size _⟩, by simp [intOf]; omega⟩
    · go_wp2
      go_ret
      have e : fs.take k = fs := List.take_of_length_le (by omega)
      exact ⟨ret_int (by rw [e]), hbel⟩
end Go.Proofs.Ytndaihhjhllfcad
