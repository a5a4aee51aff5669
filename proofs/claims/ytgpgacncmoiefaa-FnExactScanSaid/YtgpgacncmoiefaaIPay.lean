import Derived.Test.YtgpgacncmoiefaaISum
import Derived.Test.YtgpgacncmoiefaaINum
import Derived.Test.YtgpgacncmoiefaaIFits
import Derived.Test.YtgpgacncmoiefaaScanL
namespace Go.Proofs.Ytgpgacncmoiefaa
open Go.RowKit

theorem head_be (d : ByteArray) : beL (d.extract 0 4).data.toList = headN d := by
  have h := bytes_part d 0 4
  rw [Nat.zero_add] at h
  rw [h]; rfl
theorem crc_be (d : ByteArray) : beL (d.extract 4 8).data.toList = beL (sectL d 4 4) := by rw [← bytes_part d 4 4]
theorem body_part (d : ByteArray) (N : Nat) (h : 8 + N ≤ d.size) : (d.extract 8 d.size).extract 0 N = d.extract 8 (8 + N) := by
  apply bytes_ext
  have h1 := bytes_part (d.extract 8 d.size) 0 N
  rw [Nat.zero_add] at h1
  have h2 := bytes_part d 8 (d.size - 8)
  rw [show 8 + (d.size - 8) = d.size by omega] at h2
  rw [h1, bytes_part, sectL, h2, sectL, sectL, List.drop_zero, List.take_take, Nat.min_eq_left (by omega)]

set_option maxRecDepth 100000 in
set_option maxHeartbeats 1000000 in
theorem implPay_any (d : ByteArray) (b : Nat) (cur : Array Value) (w : World) (hs : d.size ≤ maxLen) (hB : Blk w b cur 98) (hcur : ∀ i, i < 256 → cur[i]? = some (.int .u32 (crcT i : Nat))) :
    Calls Try.prog 69 #[.string d, .pointer (some ⟨b, 0, none⟩)] w fun e w' => (∃ p, e = .returned (.tuple #[.string p, .bool (frB d)]) ∧ (FrameAt d → p = d.extract 8 (8 + headN d))) ∧ Below w.heap.size w w' := by
  have HB : Hid (Blk w b cur 98 ∧ ∀ i, i < 256 → cur[i]? = some (.int .u32 (crcT i : Nat))) := ⟨hB, hcur⟩
  clear hB hcur
  unfold maxLen at hs
  by_cases h8 : d.size < 8
  · have E : Hid (¬ FrameAt d) := fun h => by have := h.1; omega
    go_enter Try.func69, Try.ntmps69
    go_wp2
    refine bodyPost_ret (v := .tuple #[.string ByteArray.empty, .bool false]) (by simp [results, Try.results69, go_sem]; rfl) rfl ⟨⟨ByteArray.empty, by rw [frB_f E.out], fun h => absurd h E.out⟩, Below.refl _ _⟩
  have HNU : Hid (∀ W, Calls Try.prog 80 #[.string (d.extract 0 4)] W fun e w' => e = .returned (.int .i64 (headN d : Nat)) ∧ w' = W) := fun W => by
    rw [← head_be d]
    exact implNum_any _ W (by rw [ByteArray.size_extract]; omega)
  have HNC : Hid (∀ W, Calls Try.prog 80 #[.string (d.extract 4 8)] W fun e w' => e = .returned (.int .i64 (beL (sectL d 4 4) : Nat)) ∧ w' = W) := fun W => by
    rw [← crc_be d]
    exact implNum_any _ W (by rw [ByteArray.size_extract]; omega)
  have HF : Hid (∀ W, Calls Try.prog 36 #[.int .i64 (headN d : Int)] W fun e w' => e = .returned (.bool (btwB (headN d) 1 60000)) ∧ w' = W) := fun W => fits_any _ W
  have hne := Later.there w
  have h4i : (4 : Int) ≤ (d.size : Int) := by omega
  have h8i : (8 : Int) ≤ (d.size : Int) := by omega
  have hbz : (d.extract 8 d.size).size = d.size - 8 := by rw [ByteArray.size_extract]; omega
  by_cases h : 1 ≤ headN d ∧ headN d ≤ 60000 ∧ headN d ≤ d.size - 8
  · have HP : Hid ((d.extract 8 d.size).extract 0 (headN d) = d.extract 8 (8 + headN d)) := body_part d _ (by omega)
    have HPz : Hid (((d.extract 8 d.size).extract 0 (headN d)).size ≤ maxLen) := by
      show _ ≤ _
      rw [HP.out, part_size (by omega)]; unfold maxLen; omega
    have hb : btwB (headN d) 1 60000 = true := by simp [btwB]; omega
    rw [hb] at HF
    have HFA : Hid (FrameAt d ↔ beL (sectL d 4 4) = crcV (d.extract 8 (8 + headN d))) := ⟨fun h' => h'.2.2.2.2, fun h' => ⟨by omega, h.1, h.2.1, h.2.2, h'⟩⟩
    have hgt : ¬ ((d.size - 8 : Nat) : Int) < (headN d : Int) := by omega
    generalize headN d = N at *
    obtain ⟨hN1, hN2, hN3⟩ := h
    generalize beL (sectL d 4 4) = K at *
    go_enter Try.func69, Try.ntmps69
    go_wp2_with fail
    refine wp_region_later (by kernel_rfl) (by kernel_rfl) ?_
    repeat (go_big_quiet_step ((go_at_call 80; exact calls_later_same (HNU.out _))))
    refine wpQuiet_nil ?_
    rintro _ ⟨x, rfl⟩
    have HBx : Hid (Below w.heap.size w x.w') := x.h
    have HBB : Hid (Blk x.w' b cur 98) := HB.out.1.later x.h
    generalize x.w' = w1 at *
    clear hne
    have hne := Later.there w1
    go_wp2_with (go_at_call 36; refine (HF.out _).mono ?_; rintro e w' ⟨rfl, hw⟩; replace hw := hw.symm; subst hw)
    refine wp_region_later (by kernel_rfl) (by kernel_rfl) ?_
    repeat (go_big_quiet_step (first | (go_at_call 80; exact calls_later_same (HNC.out _)) | (go_at_call 33; exact calls_later (tabSum_any b cur _ _ HPz.out (HBB.out.later (Later.h _)) HB.out.2))))
    refine wpQuiet_nil ?_
    rintro _ ⟨y, rfl⟩
    have HBy : Hid (Below w.heap.size w y.w') := bto HBx.out y.h
    go_wp2
    refine bodyPost_ret (v := .tuple #[.string ((d.extract 8 d.size).extract 0 N), .bool ((crcV ((d.extract 8 d.size).extract 0 N) : Int) == (K : Int))]) (by simp [results, Try.results69, go_sem]) rfl ⟨⟨_, ?_, fun _ => HP.out⟩, HBy.out⟩
    have e : (((crcV ((d.extract 8 d.size).extract 0 N) : Nat) : Int) == (K : Int)) = frB d := by
      rw [HP.out]
      by_cases hK : K = crcV (d.extract 8 (8 + N))
      · rw [frB_t (HFA.out.2 hK), hK]; simp
      · rw [frB_f (fun h => hK (HFA.out.1 h))]
        simp; omega
    rw [e]
  · have E : Hid (¬ FrameAt d) := fun h' => h ⟨h'.2.1, h'.2.2.1, h'.2.2.2.1⟩
    have hcond : (!btwB (headN d) 1 60000) = true ∨ (!btwB (headN d) 1 60000) = false ∧ ((d.size - 8 : Nat) : Int) < (headN d : Int) := by
      simp only [btwB]
      by_cases h1 : (1 : Int) ≤ (headN d : Int) <;> by_cases h2 : ((headN d : Nat) : Int) ≤ 60000 <;> simp [h1, h2] <;> omega
    generalize btwB (headN d) 1 60000 = bb at *
    generalize headN d = N at *
    go_enter Try.func69, Try.ntmps69
    go_wp2_with fail
    refine wp_region_later (by kernel_rfl) (by kernel_rfl) ?_
    repeat (go_big_quiet_step ((go_at_call 80; exact calls_later_same (HNU.out _))))
    refine wpQuiet_nil ?_
    rintro _ ⟨x, rfl⟩
    have HBx : Hid (Below w.heap.size w x.w') := x.h
    generalize x.w' = w1 at *
    rcases hcond with hc | ⟨hc, hgt⟩
    · have hbb : bb = false := by simpa using hc
      subst hbb
      clear hc
      go_wp2_with (go_at_call 36; refine (HF.out _).mono ?_; rintro e w' ⟨rfl, hw⟩; replace hw := hw.symm; subst hw)
      refine bodyPost_ret (v := .tuple #[.string ByteArray.empty, .bool false]) (by simp [results, Try.results69, go_sem]; rfl) rfl ⟨⟨ByteArray.empty, by rw [frB_f E.out], fun h => absurd h E.out⟩, HBx.out⟩
    · have hbb : bb = true := by simpa using hc
      subst hbb
      clear hc
      go_wp2_with (go_at_call 36; refine (HF.out _).mono ?_; rintro e w' ⟨rfl, hw⟩; replace hw := hw.symm; subst hw)
      refine bodyPost_ret (v := .tuple #[.string ByteArray.empty, .bool false]) (by simp [results, Try.results69, go_sem]; rfl) rfl ⟨⟨ByteArray.empty, by rw [frB_f E.out], fun h => absurd h E.out⟩, HBx.out⟩
end Go.Proofs.Ytgpgacncmoiefaa
