import Derived.Test.YtndaihhjhllfcadProg
import Derived.Test.YtndaihhjhllfcadBase
namespace Go.Proofs.Ytndaihhjhllfcad
open Go.RowKit

set_option maxHeartbeats 400000 in
theorem szFile_any (f : FileD) (left : Int) (w : World) (h0 : 0 ≤ left) (h1 : left ≤ 1048576) (hn : f.name.size ≤ maxLen) (hd : f.data.size ≤ maxLen) :
    Calls Try.prog 28 #[.agg #[.string f.name, .string f.data, .int .i64 f.synced], .int .i64 left] w fun e w' => e = .returned (.int .i64 (szF left f)) ∧ Below w.heap.size w w' := by
  unfold maxLen at hn hd
  obtain ⟨nm, da, sy⟩ := f
  simp only at hn hd ⊢
  by_cases c1 : left - nm.size < 0
  · have e : szF left ⟨nm, da, sy⟩ = -1 := by unfold szF; rw [if_neg]; simp only; omega
    rw [e]
    go_enter Try.func28, Try.ntmps28
    go_wp2
    go_ret
    exact ⟨rfl, (Below.refl _ _).alloc (Nat.le_refl _) _⟩
  · by_cases c2 : left - nm.size - da.size < 0
    · have e : szF left ⟨nm, da, sy⟩ = -1 := by unfold szF; rw [if_neg]; simp only; omega
      rw [e]
      go_enter Try.func28, Try.ntmps28
      go_wp2
      go_ret
      exact ⟨rfl, (Below.refl _ _).alloc (Nat.le_refl _) _⟩
    · have e : szF left ⟨nm, da, sy⟩ = left - nm.size - da.size := by unfold szF; rw [if_pos]; simp only; omega
      rw [e]
      go_enter Try.func28, Try.ntmps28
      go_wp2
      go_ret
      exact ⟨rfl, (Below.refl _ _).alloc (Nat.le_refl _) _⟩

set_option maxHeartbeats 1000000 in
theorem szFileS_any (a : Option Addr) (cap : Nat) (fs : List FileD) (left : Int) (w : World) (h0 : 0 ≤ left) (h1 : left ≤ 1048576) (hf : FilesIn w a fs) (hs : Short fs) (hlen : fs.length ≤ maxLen) :
    Calls Try.prog 13 #[.slice a fs.length cap, .int .i64 left] w fun e w' => e = .returned (.int .i64 (szFs left fs)) ∧ Below w.heap.size w w' := by
  unfold maxLen at hlen
  by_cases c1 : left - fs.length < 0
  · have e : szFs left fs = -1 := by unfold szFs; rw [if_neg]; omega
    rw [e]
    clear hf hs
    go_enter Try.func13, Try.ntmps13
    go_wp2
    go_ret
    exact ⟨rfl, Below.refl _ _⟩
  · have hne : ¬ (left - fs.length < 0) := c1
    have HF : Hid (FilesIn w a fs) := hf
    have HS : Hid (Short fs) := hs
    clear hf hs
    go_enter Try.func13, Try.ntmps13
    go_wp2
    go_loopw [1, 5] (fun l i wr => ∃ k : Nat, k ≤ fs.length ∧ i = .int .i64 k ∧ (bulk (fs.take k) : Int) ≤ left - fs.length ∧ l = .int .i64 (left - fs.length - bulk (fs.take k)) ∧ Below w.heap.size w wr) (fun _ i _ => fs.length - (intOf i).toNat)
    case atStart => exact ⟨0, Nat.zero_le _, rfl, by simp [bulk]; omega, by simp [bulk], Below.refl _ _⟩
    case round =>
      obtain ⟨k, hk, rfl, hle, rfl, hbel⟩ := hrel
      by_cases hlt : k < fs.length
      · obtain ⟨b, o, rfl, hb, c0, c1, c2⟩ := (HF.out.later hbel).at hlt
        have hss := HS.out k hlt
        have hts := bulk_take_succ fs k hlt
        have htl := bulk_take_le fs (k + 1)
        by_cases c3 : ((fs[k].name.size + fs[k].data.size : Nat) : Int) ≤ left - fs.length - bulk (fs.take k)
        · have e : szF (left - fs.length - bulk (fs.take k)) fs[k] = left - fs.length - bulk (fs.take (k + 1)) := by
            unfold szF; rw [if_pos (by omega), hts]; omega
          have E : Hid (szF (left - fs.length - bulk (fs.take k)) fs[k] = left - fs.length - bulk (fs.take (k + 1))) := e
          have hle2 : (bulk (fs.take (k + 1)) : Int) ≤ left - fs.length := by omega
          clear e hts
          go_wp2_with fail
          refine (szFile_any fs[k] _ _ (by omega) (by omega) hss.1 hss.2).mono ?_
          rintro e w' ⟨rfl, hb2⟩
          rw [E.out]
          go_wp2
          exact ⟨⟨k + 1, by omega, by go_num, hle2, rfl, hbel.trans (hb2.mono hbel.size)⟩, by simp [intOf]; omega⟩
        · have e : szF (left - fs.length - bulk (fs.take k)) fs[k] = -1 := by
            unfold szF; rw [if_neg (by omega)]
          have E : Hid (szF (left - fs.length - bulk (fs.take k)) fs[k] = -1) := e
          have E2 : Hid (szFs left fs = -1) := by show szFs left fs = -1; unfold szFs; rw [if_neg (by omega)]
          clear e hts
          go_wp2_with fail
          refine (szFile_any fs[k] _ _ (by omega) (by omega) hss.1 hss.2).mono ?_
          rintro e w' ⟨rfl, hb2⟩
          rw [E.out]
          go_wp2
          go_ret
          exact ⟨ret_int E2.out.symm, hbel.trans (hb2.mono hbel.size)⟩
      · go_wp2
        go_ret
        have e : fs.take k = fs := List.take_of_length_le (by omega)
        rw [e] at hle ⊢
        exact ⟨ret_int (by unfold szFs; rw [if_pos (by omega)]), hbel⟩

/-- A disk's value: the six cells. -/
abbrev diskV (a : Option Addr) (n cap : Nat) (c k cr fl : Int) (dn : Bool) : Value := .agg #[.slice a n cap, .int .i64 c, .int .i64 k, .int .i64 cr, .int .i64 fl, .bool dn]

set_option maxHeartbeats 400000 in
theorem szDisk_any (a : Option Addr) (cap : Nat) (fs : List FileD) (c k cr fl : Int) (dn : Bool) (left : Int) (w : World) (h0 : 0 ≤ left) (h1 : left ≤ 1048576) (hf : FilesIn w a fs) (hs : Short fs) (hlen : fs.length ≤ maxLen) :
    Calls Try.prog 4 #[.agg #[.slice a fs.length cap, .int .i64 c, .int .i64 k, .int .i64 cr, .int .i64 fl, .bool dn], .int .i64 left] w fun e w' => e = .returned (.int .i64 (szFs left fs)) ∧ Below w.heap.size w w' := by
  have HF : Hid (FilesIn w a fs) := hf
  clear hf
  by_cases c1 : szFs left fs < 0
  · have E : Hid (szFs left fs = -1) := by show szFs left fs = -1; unfold szFs at c1 ⊢; split at c1 <;> omega
    go_enter Try.func4, Try.ntmps4
    go_wp2_with fail
    refine (szFileS_any a cap fs left _ h0 h1 (HF.out.later ((Below.refl _ _).alloc (Nat.le_refl _) _)) hs hlen).mono ?_
    rintro e w' ⟨rfl, hb2⟩
    go_wp2
    go_ret
    exact ⟨ret_int E.out.symm, ((Below.refl _ _).alloc (Nat.le_refl _) _).trans (hb2.mono (by simp))⟩
  · go_enter Try.func4, Try.ntmps4
    go_wp2_with fail
    refine (szFileS_any a cap fs left _ h0 h1 (HF.out.later ((Below.refl _ _).alloc (Nat.le_refl _) _)) hs hlen).mono ?_
    rintro e w' ⟨rfl, hb2⟩
    go_wp2
    go_ret
    exact ⟨rfl, ((Below.refl _ _).alloc (Nat.le_refl _) _).trans (hb2.mono (by simp))⟩
end Go.Proofs.Ytndaihhjhllfcad
