import Derived.Test.YtgpgacncmoiefaaProg
import Derived.Test.YtgpgacncmoiefaaRecB
import Derived.Test.YtgpgacncmoiefaaRecI
import Derived.Deep.OwnRows
namespace Go.Proofs.Ytgpgacncmoiefaa
open Go.RowKit

set_option maxHeartbeats 400000 in
theorem szRec_any (f : RecD) (left : Int) (w : World) (h0 : 0 ≤ left) (h1 : left ≤ 1048576) (hn : f.tenant.size ≤ maxLen) (hd : f.text.size ≤ maxLen) :
    Calls Try.prog 70 #[.agg #[.int .i64 f.kind, .string f.tenant, .string f.text, .int .i64 f.num], .int .i64 left] w fun e w' => e = .returned (.int .i64 (szRc left f)) ∧ Below w.heap.size w w' := by
  unfold maxLen at hn hd
  obtain ⟨ki, nm, da, nu⟩ := f
  simp only at hn hd ⊢
  by_cases c1 : left - nm.size < 0
  · have e : szRc left ⟨ki, nm, da, nu⟩ = -1 := by unfold szRc; rw [if_neg]; simp only; omega
    rw [e]
    go_enter Try.func70, Try.ntmps70
    go_wp2
    go_ret
    exact ⟨rfl, (Below.refl _ _).alloc (Nat.le_refl _) _⟩
  · by_cases c2 : left - nm.size - da.size < 0
    · have e : szRc left ⟨ki, nm, da, nu⟩ = -1 := by unfold szRc; rw [if_neg]; simp only; omega
      rw [e]
      go_enter Try.func70, Try.ntmps70
      go_wp2
      go_ret
      exact ⟨rfl, (Below.refl _ _).alloc (Nat.le_refl _) _⟩
    · have e : szRc left ⟨ki, nm, da, nu⟩ = left - nm.size - da.size := by unfold szRc; rw [if_pos]; simp only; omega
      rw [e]
      go_enter Try.func70, Try.ntmps70
      go_wp2
      go_ret
      exact ⟨rfl, (Below.refl _ _).alloc (Nat.le_refl _) _⟩

set_option maxHeartbeats 1000000 in
theorem szRecS_any (a : Option Addr) (cap : Nat) (fs : List RecD) (left : Int) (w : World) (h0 : 0 ≤ left) (h1 : left ≤ 1048576) (hf : RecsIn w a fs) (hs : ShortR fs) (hlen : fs.length ≤ maxLen) :
    Calls Try.prog 41 #[.slice a fs.length cap, .int .i64 left] w fun e w' => e = .returned (.int .i64 (szRecs left fs)) ∧ Below w.heap.size w w' := by
  unfold maxLen at hlen
  by_cases c1 : left - fs.length < 0
  · have e : szRecs left fs = -1 := by unfold szRecs; rw [if_neg]; omega
    rw [e]
    clear hf hs
    go_enter Try.func41, Try.ntmps41
    go_wp2
    go_ret
    exact ⟨rfl, Below.refl _ _⟩
  · have hne : ¬ (left - fs.length < 0) := c1
    have HF : Hid (RecsIn w a fs) := hf
    have HS : Hid (ShortR fs) := hs
    clear hf hs
    go_enter Try.func41, Try.ntmps41
    go_wp2
    go_loopw [1, 5] (fun l i wr => ∃ k : Nat, k ≤ fs.length ∧ i = .int .i64 k ∧ (recBulk (fs.take k) : Int) ≤ left - fs.length ∧ l = .int .i64 (left - fs.length - recBulk (fs.take k)) ∧ Below w.heap.size w wr) (fun _ i _ => fs.length - (intOf i).toNat)
    case atStart => exact ⟨0, Nat.zero_le _, rfl, by simp [recBulk]; omega, by simp [recBulk], Below.refl _ _⟩
    case round =>
      obtain ⟨k, hk, rfl, hle, rfl, hbel⟩ := hrel
      by_cases hlt : k < fs.length
      · obtain ⟨b, o, rfl, hb, c0, c1, cc2, cc3⟩ := (HF.out.later hbel).at hlt
        have hss := HS.out k hlt
        have hts := recBulk_take_succ fs k hlt
        have htl := recBulk_take_le fs (k + 1)
        by_cases c3 : ((fs[k].tenant.size + fs[k].text.size : Nat) : Int) ≤ left - fs.length - recBulk (fs.take k)
        · have e : szRc (left - fs.length - recBulk (fs.take k)) fs[k] = left - fs.length - recBulk (fs.take (k + 1)) := by
            unfold szRc; rw [if_pos (by omega), hts]; omega
          have E : Hid (szRc (left - fs.length - recBulk (fs.take k)) fs[k] = left - fs.length - recBulk (fs.take (k + 1))) := e
          have hle2 : (recBulk (fs.take (k + 1)) : Int) ≤ left - fs.length := by omega
          clear e hts
          go_wp2_with fail
          refine (szRec_any fs[k] _ _ (by omega) (by omega) hss.1 hss.2).mono ?_
          rintro e w' ⟨rfl, hb2⟩
          rw [E.out]
          go_wp2
          exact ⟨⟨k + 1, by omega, by go_num, hle2, rfl, hbel.trans (hb2.mono hbel.size)⟩, by simp [intOf]; omega⟩
        · have e : szRc (left - fs.length - recBulk (fs.take k)) fs[k] = -1 := by
            unfold szRc; rw [if_neg (by omega)]
          have E : Hid (szRc (left - fs.length - recBulk (fs.take k)) fs[k] = -1) := e
          have E2 : Hid (szRecs left fs = -1) := by show szRecs left fs = -1; unfold szRecs; rw [if_neg (by omega)]
          clear e hts
          go_wp2_with fail
          refine (szRec_any fs[k] _ _ (by omega) (by omega) hss.1 hss.2).mono ?_
          rintro e w' ⟨rfl, hb2⟩
          rw [E.out]
          go_wp2
          go_ret
          exact ⟨ret_int E2.out.symm, hbel.trans (hb2.mono hbel.size)⟩
      · go_wp2
        go_ret
        have e : fs.take k = fs := List.take_of_length_le (by omega)
        rw [e] at hle ⊢
        exact ⟨ret_int (by unfold szRecs; rw [if_pos (by omega)]), hbel⟩

set_option maxHeartbeats 400000 in
theorem toRec_any (ki : Int) (nm da : ByteArray) (nu : Int) (w : World) :
    Calls Try.prog 71 #[.agg #[.int .i64 ki, .string nm, .string da, .int .i64 nu]] w fun e w' => e = .returned (.agg #[.int .i64 ki, .string nm, .string da, .int .i64 nu]) ∧ Below w.heap.size w w' := by
  go_enter Try.func71, Try.ntmps71
  go_wp2
  exact bodyPost_ret (v := .agg #[.int .i64 ki, .string nm, .string da, .int .i64 nu]) (by simp [results, Try.results71, go_sem]) rfl ⟨rfl, (((Below.refl _ _).alloc (Nat.le_refl _) _).alloc (by simp) _).alloc (by simp; omega) _⟩

set_option maxHeartbeats 1000000 in
theorem toRecS_any (a : Option Addr) (cap : Nat) (fs : List RecD) (w : World) (hf : RecsIn w a fs) (hlen : fs.length ≤ 1048576) :
    Calls Try.prog 45 #[.slice a fs.length cap] w fun e w' => e = .returned (.slice (some ⟨w.heap.size, 0, none⟩) fs.length fs.length) ∧ RecsOwn w' w.heap.size (some ⟨w.heap.size, 0, none⟩) fs ∧ Below w.heap.size w w' ∧ w.heap.size < w'.heap.size := by
  have HF : Hid (RecsIn w a fs) := hf
  clear hf
  have hmk := make_recs fs.length hlen
  go_enter Try.func45, Try.ntmps45
  go_wp2
  go_loopw [4] (fun i wr => ∃ k : Nat, k ≤ fs.length ∧ i = .int .i64 k ∧ FillR wr w.heap.size fs.length fs k ∧ Below w.heap.size w wr ∧ w.heap.size < wr.heap.size) (fun i _ => fs.length - (intOf i).toNat)
  case atStart => exact ⟨0, Nat.zero_le _, rfl, ⟨_, heap_alloc_new _ _, size_madeCells _ _, fun i _ h => absurd h (by omega)⟩, (Below.refl _ _).alloc (Nat.le_refl _) _, by simp⟩
  case round =>
    obtain ⟨k, hk, rfl, hfill, hbel, hsz⟩ := hrel
    have HFill : Hid (FillR wr w.heap.size fs.length fs k) := hfill
    clear hfill hmk
    by_cases hlt : k < fs.length
    · obtain ⟨b, o, rfl, hb, c0, c1, cc2, cc3⟩ := (HF.out.later hbel).at hlt
      go_wp2_with fail
      refine (toRec_any _ _ _ _ _).mono ?_
      rintro e w' ⟨rfl, hb2⟩
      have hF2 := HFill.out.later hb2 hsz
      obtain ⟨⟨v0, d0⟩, f0⟩ := hF2.cells (j := k * 4) (by omega)
      obtain ⟨⟨v1, d1⟩, f1⟩ := hF2.cells (j := k * 4 + 1) (by omega)
      obtain ⟨⟨v2, d2⟩, f2⟩ := hF2.cells (j := k * 4 + 2) (by omega)
      obtain ⟨⟨v3, d3⟩, f3⟩ := hF2.cells (j := k * 4 + 3) (by omega)
      have HF2 : Hid (FillR w' w.heap.size fs.length fs k) := hF2
      clear hF2
      go_wp2
      exact ⟨⟨k + 1, by omega, by go_num, HF2.out.step hlt (Nat.le_refl _), ((((hbel.trans (hb2.mono hbel.size)).setCell (Nat.le_refl _) _).setCell (Nat.le_refl _) _).setCell (Nat.le_refl _) _).setCell (Nat.le_refl _) _, by have := hb2.size; simp; omega⟩, by simp [intOf]; omega⟩
    · go_wp2
      go_ret
      have e : k = fs.length := by omega
      exact ⟨rfl, by have := HFill.out; rw [e] at this; exact this.done (Nat.le_refl _), hbel, hsz⟩

end Go.Proofs.Ytgpgacncmoiefaa
