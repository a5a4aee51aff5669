import Derived.Test.YtoecnlhnfhongaaDoorProg
import Derived.Test.YtoecnlhnfhongaaDoorLabB
import Derived.Test.YtoecnlhnfhongaaDoorLabI
import Derived.Deep.OwnRows
namespace Go.Proofs.YtoecnlhnfhongaaDoor
open Go.RowKit

set_option maxHeartbeats 400000 in
theorem szLabel_any (f : LabD) (left : Int) (w : World) (h0 : 0 ≤ left) (h1 : left ≤ 1048576) (hn : f.name.size ≤ maxLen) (hd : f.value.size ≤ maxLen) :
    Calls Tryd.prog 62 #[.agg #[.string f.name, .string f.value], .int .i64 left] w fun e w' => e = .returned (.int .i64 (szLab left f)) ∧ Below w.heap.size w w' := by
  unfold maxLen at hn hd
  obtain ⟨nm, da⟩ := f
  simp only at hn hd ⊢
  by_cases c1 : left - nm.size < 0
  · have e : szLab left ⟨nm, da⟩ = -1 := by unfold szLab; rw [if_neg]; simp only; omega
    rw [e]
    go_enter Tryd.func62, Tryd.ntmps62
    go_wp2
    go_ret
    exact ⟨rfl, (Below.refl _ _).alloc (Nat.le_refl _) _⟩
  · by_cases c2 : left - nm.size - da.size < 0
    · have e : szLab left ⟨nm, da⟩ = -1 := by unfold szLab; rw [if_neg]; simp only; omega
      rw [e]
      go_enter Tryd.func62, Tryd.ntmps62
      go_wp2
      go_ret
      exact ⟨rfl, (Below.refl _ _).alloc (Nat.le_refl _) _⟩
    · have e : szLab left ⟨nm, da⟩ = left - nm.size - da.size := by unfold szLab; rw [if_pos]; simp only; omega
      rw [e]
      go_enter Tryd.func62, Tryd.ntmps62
      go_wp2
      go_ret
      exact ⟨rfl, (Below.refl _ _).alloc (Nat.le_refl _) _⟩

set_option maxHeartbeats 1000000 in
theorem szLabelS_any (a : Option Addr) (cap : Nat) (fs : List LabD) (left : Int) (w : World) (h0 : 0 ≤ left) (h1 : left ≤ 1048576) (hf : LabsIn w a fs) (hs : ShortL fs) (hlen : fs.length ≤ maxLen) :
    Calls Tryd.prog 52 #[.slice a fs.length cap, .int .i64 left] w fun e w' => e = .returned (.int .i64 (szLabs left fs)) ∧ Below w.heap.size w w' := by
  unfold maxLen at hlen
  by_cases c1 : left - fs.length < 0
  · have e : szLabs left fs = -1 := by unfold szLabs; rw [if_neg]; omega
    rw [e]
    clear hf hs
    go_enter Tryd.func52, Tryd.ntmps52
    go_wp2
    go_ret
    exact ⟨rfl, Below.refl _ _⟩
  · have hne : ¬ (left - fs.length < 0) := c1
    have HF : Hid (LabsIn w a fs) := hf
    have HS : Hid (ShortL fs) := hs
    clear hf hs
    go_enter Tryd.func52, Tryd.ntmps52
    go_wp2
    go_loopw [1, 5] (fun l i wr => ∃ k : Nat, k ≤ fs.length ∧ i = .int .i64 k ∧ (labBulk (fs.take k) : Int) ≤ left - fs.length ∧ l = .int .i64 (left - fs.length - labBulk (fs.take k)) ∧ Below w.heap.size w wr) (fun _ i _ => fs.length - (intOf i).toNat)
    case atStart => exact ⟨0, Nat.zero_le _, rfl, by simp [labBulk]; omega, by simp [labBulk], Below.refl _ _⟩
    case round =>
      obtain ⟨k, hk, rfl, hle, rfl, hbel⟩ := hrel
      by_cases hlt : k < fs.length
      · obtain ⟨b, o, rfl, hb, c0, c1⟩ := (HF.out.later hbel).at hlt
        have hss := HS.out k hlt
        have hts := labBulk_take_succ fs k hlt
        have htl := labBulk_take_le fs (k + 1)
        by_cases c3 : ((fs[k].name.size + fs[k].value.size : Nat) : Int) ≤ left - fs.length - labBulk (fs.take k)
        · have e : szLab (left - fs.length - labBulk (fs.take k)) fs[k] = left - fs.length - labBulk (fs.take (k + 1)) := by
            unfold szLab; rw [if_pos (by omega), hts]; omega
          have E : Hid (szLab (left - fs.length - labBulk (fs.take k)) fs[k] = left - fs.length - labBulk (fs.take (k + 1))) := e
          have hle2 : (labBulk (fs.take (k + 1)) : Int) ≤ left - fs.length := by omega
          clear e hts
          go_wp2_with fail
          refine (szLabel_any fs[k] _ _ (by omega) (by omega) hss.1 hss.2).mono ?_
          rintro e w' ⟨rfl, hb2⟩
          rw [E.out]
          go_wp2
          exact ⟨⟨k + 1, by omega, by go_num, hle2, rfl, hbel.trans (hb2.mono hbel.size)⟩, by simp [intOf]; omega⟩
        · have e : szLab (left - fs.length - labBulk (fs.take k)) fs[k] = -1 := by
            unfold szLab; rw [if_neg (by omega)]
          have E : Hid (szLab (left - fs.length - labBulk (fs.take k)) fs[k] = -1) := e
          have E2 : Hid (szLabs left fs = -1) := by show szLabs left fs = -1; unfold szLabs; rw [if_neg (by omega)]
          clear e hts
          go_wp2_with fail
          refine (szLabel_any fs[k] _ _ (by omega) (by omega) hss.1 hss.2).mono ?_
          rintro e w' ⟨rfl, hb2⟩
          rw [E.out]
          go_wp2
          go_ret
          exact ⟨ret_int E2.out.symm, hbel.trans (hb2.mono hbel.size)⟩
      · go_wp2
        go_ret
        have e : fs.take k = fs := List.take_of_length_le (by omega)
        rw [e] at hle ⊢
        exact ⟨ret_int (by unfold szLabs; rw [if_pos (by omega)]), hbel⟩

set_option maxHeartbeats 400000 in
theorem toLabel_any (nm da : ByteArray) (w : World) :
    Calls Tryd.prog 63 #[.agg #[.string nm, .string da]] w fun e w' => e = .returned (.agg #[.string nm, .string da]) ∧ Below w.heap.size w w' := by
  go_enter Tryd.func63, Tryd.ntmps63
  go_wp2
  exact bodyPost_ret (v := .agg #[.string nm, .string da]) (by simp [results, Tryd.results63, go_sem]) rfl ⟨rfl, (((Below.refl _ _).alloc (Nat.le_refl _) _).alloc (by simp) _).alloc (by simp; omega) _⟩

set_option maxHeartbeats 1000000 in
theorem toLabelS_any (a : Option Addr) (cap : Nat) (fs : List LabD) (w : World) (hf : LabsIn w a fs) (hlen : fs.length ≤ 1048576) :
    Calls Tryd.prog 53 #[.slice a fs.length cap] w fun e w' => e = .returned (.slice (some ⟨w.heap.size, 0, none⟩) fs.length fs.length) ∧ LabsOwn w' w.heap.size (some ⟨w.heap.size, 0, none⟩) fs ∧ Below w.heap.size w w' := by
  have HF : Hid (LabsIn w a fs) := hf
  clear hf
  have hmk := make_labels fs.length hlen
  go_enter Tryd.func53, Tryd.ntmps53
  go_wp2
  go_loopw [4] (fun i wr => ∃ k : Nat, k ≤ fs.length ∧ i = .int .i64 k ∧ FillL wr w.heap.size fs.length fs k ∧ Below w.heap.size w wr ∧ w.heap.size < wr.heap.size) (fun i _ => fs.length - (intOf i).toNat)
  case atStart => exact ⟨0, Nat.zero_le _, rfl, ⟨_, heap_alloc_new _ _, size_madeCells _ _, fun i _ h => absurd h (by omega)⟩, (Below.refl _ _).alloc (Nat.le_refl _) _, by simp⟩
  case round =>
    obtain ⟨k, hk, rfl, hfill, hbel, hsz⟩ := hrel
    have HFill : Hid (FillL wr w.heap.size fs.length fs k) := hfill
    clear hfill hmk
    by_cases hlt : k < fs.length
    · obtain ⟨b, o, rfl, hb, c0, c1⟩ := (HF.out.later hbel).at hlt
      go_wp2_with fail
      refine (toLabel_any _ _ _).mono ?_
      rintro e w' ⟨rfl, hb2⟩
      have hF2 := HFill.out.later hb2 hsz
      obtain ⟨⟨v0, d0⟩, f0⟩ := hF2.cells (j := k * 2) (by omega)
      obtain ⟨⟨v1, d1⟩, f1⟩ := hF2.cells (j := k * 2 + 1) (by omega)
      have HF2 : Hid (FillL w' w.heap.size fs.length fs k) := hF2
      clear hF2
      go_wp2
      exact ⟨⟨k + 1, by omega, by go_num, HF2.out.step hlt (Nat.le_refl _), ((hbel.trans (hb2.mono hbel.size)).setCell (Nat.le_refl _) _).setCell (Nat.le_refl _) _, by have := hb2.size; simp; omega⟩, by simp [intOf]; omega⟩
    · go_wp2
      go_ret
      have e : k = fs.length := by omega
      exact ⟨rfl, by have := HFill.out; rw [e] at this; exact this.done (Nat.le_refl _), hbel⟩

end Go.Proofs.YtoecnlhnfhongaaDoor
