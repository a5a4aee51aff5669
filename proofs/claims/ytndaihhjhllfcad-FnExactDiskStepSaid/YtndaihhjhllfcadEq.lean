import Derived.Test.YtndaihhjhllfcadProg
import Derived.Test.YtndaihhjhllfcadBase
namespace Go.Proofs.Ytndaihhjhllfcad
open Go.RowKit

set_option maxHeartbeats 400000 in
theorem eqFile_same (nm da : ByteArray) (sy : Int) (w : World) :
    Calls Try.prog 48 #[.agg #[.string nm, .string da, .int .i64 sy], .agg #[.string nm, .string da, .int .i64 sy]] w fun e w' => e = .returned (.bool true) ∧ Below w.heap.size w w' := by
  go_enter Try.func48, Try.ntmps48
  go_wp2
  go_ret
  exact ⟨rfl, ((Below.refl _ _).alloc (Nat.le_refl _) _).alloc (by simp) _⟩

set_option maxHeartbeats 1000000 in
theorem eqFileS_same (a a' : Option Addr) (cap cap' : Nat) (fs : List FileD) (w : World) (hf : FilesIn w a fs) (hf' : FilesIn w a' fs) (hlen : fs.length ≤ maxLen) :
    Calls Try.prog 25 #[.slice a fs.length cap, .slice a' fs.length cap'] w fun e w' => e = .returned (.bool true) ∧ Below w.heap.size w w' := by
  unfold maxLen at hlen
  have HF : Hid (FilesIn w a fs) := hf
  have HF' : Hid (FilesIn w a' fs) := hf'
  clear hf hf'
  go_enter Try.func25, Try.ntmps25
  go_wp2
  go_loopw [5] (fun i wr => ∃ k : Nat, k ≤ fs.length ∧ i = .int .i64 k ∧ Below w.heap.size w wr) (fun i _ => fs.length - (intOf i).toNat)
  case atStart => exact ⟨0, Nat.zero_le _, rfl, Below.refl _ _⟩
  case round =>
    obtain ⟨k, hk, rfl, hbel⟩ := hrel
    by_cases hlt : k < fs.length
    · obtain ⟨b, o, rfl, hb, c0, c1, c2⟩ := (HF.out.later hbel).at hlt
      obtain ⟨b', o', rfl, hb', c0', c1', c2'⟩ := (HF'.out.later hbel).at hlt
      have d0 := Later.cells c0
      have d1 := Later.cells c1
      have d2 := Later.cells c2
      have d0' := Later.cells c0'
      have d1' := Later.cells c1'
      have d2' := Later.cells c2'
      clear c0 c1 c2 c0' c1' c2'
      have hne := Later.there wr
      go_wp2_with fail
      refine wp_region_later (by kernel_rfl) (by kernel_rfl) ?_
      repeat (go_big_quiet_step (refine calls_later (eqFile_same _ _ _ _)))
      refine wpQuiet_nil ?_
      rintro _ ⟨x, rfl⟩
      go_wp2
      exact ⟨⟨k + 1, by omega, by go_num, hbel.trans (x.h.mono hbel.size)⟩, by simp [intOf]; omega⟩
    · go_wp2
      go_ret
      exact ⟨rfl, hbel⟩

set_option maxHeartbeats 1000000 in
theorem eqDisk_same (a a' : Option Addr) (cap cap' : Nat) (fs : List FileD) (c k cr fl : Int) (dn : Bool) (w : World) (hf : FilesIn w a fs) (hf' : FilesIn w a' fs) (hlen : fs.length ≤ maxLen) :
    Calls Try.prog 10 #[.agg #[.slice a fs.length cap, .int .i64 c, .int .i64 k, .int .i64 cr, .int .i64 fl, .bool dn], .agg #[.slice a' fs.length cap', .int .i64 c, .int .i64 k, .int .i64 cr, .int .i64 fl, .bool dn]] w
      fun e w' => e = .returned (.bool true) ∧ Below w.heap.size w w' := by
  have HF : Hid (FilesIn w a fs) := hf
  have HF' : Hid (FilesIn w a' fs) := hf'
  clear hf hf'
  go_enter Try.func10, Try.ntmps10
  go_wp2_with fail
  have hb0 := fun o1 o2 => ((Below.refl w.heap.size w).alloc (Nat.le_refl _) o1).alloc (by simp) o2
  refine (eqFileS_same a a' cap cap' fs _ (HF.out.later (hb0 _ _)) (HF'.out.later (hb0 _ _)) hlen).mono ?_
  rintro e w' ⟨rfl, hb1⟩
  obtain ⟨hc, _⟩ := bcell hb1
  have HB : Hid (Below w.heap.size w w') := (hb0 _ _).trans (hb1.mono (by simp; omega))
  clear hb0 hb1
  go_wp2
  go_ret
  exact ⟨rfl, HB.out⟩
end Go.Proofs.Ytndaihhjhllfcad
