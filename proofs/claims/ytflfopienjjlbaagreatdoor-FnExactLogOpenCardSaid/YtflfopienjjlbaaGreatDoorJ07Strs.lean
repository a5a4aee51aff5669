import Derived.Test.YtflfopienjjlbaaGreatDoorJ06ScanL
import Derived.Test.YtflfopienjjlbaaGreatDoorProg
import Derived.Test.YtflfopienjjlbaaGreatDoorJ01SegOfL
import Derived.Test.YtflfopienjjlbaaGreatDoorJ03Nm
import Derived.Test.YtflfopienjjlbaaGreatDoorJ04Clone
import Derived.Deep.AppendLies
namespace Go.Proofs.YtflfopienjjlbaaGreatDoor
open Go.RowKit

theorem head_be (d : ByteArray) : beL (d.extract 0 4).data.toList = headN d := by
  have h := bytes_part d 0 4
  rw [Nat.zero_add] at h
  rw [h]; rfl
theorem crc_be (d : ByteArray) : beL (d.extract 4 8).data.toList = beL (sectL d 4 4) := by rw [← bytes_part d 4 4]
theorem body_part (d : ByteArray) (N : Nat) (h : 8 + N ≤ d.size) : (d.extract 8 d.size).extract 0 N = d.extract 8 (8 + N) := by
  apply bytes_ext
  have h1 := bytes_part (d.extract 8 d.size) 0 N
  rw [Nat.zero_add] at h1
  have h2 := bytes_part d 8 (d.size - 8)
  rw [show 8 + (d.size - 8) = d.size by omega] at h2
  rw [h1, bytes_part, sectL, h2, sectL, sectL, List.drop_zero, List.take_take, Nat.min_eq_left (by omega)]

set_option maxRecDepth 100000 in
set_option maxHeartbeats 1000000 in
theorem implPay_any (d : ByteArray) (b : Nat) (cur : Array Value) (w : World) (hs : d.size ≤ maxLen) (hB : Blk w b cur 133) (hcur : ∀ i, i < 256 → cur[i]? = some (.int .u32 (crcT i : Nat))) :
    Calls Tryz.prog 75 #[.string d, .pointer (some ⟨b, 0, none⟩)] w fun e w' => (∃ p, e = .returned (.tuple #[.string p, .bool (frB d)]) ∧ (FrameAt d → p = d.extract 8 (8 + headN d))) ∧ Below w.heap.size w w' := by
  have HB : Hid (Blk w b cur 133 ∧ ∀ i, i < 256 → cur[i]? = some (.int .u32 (crcT i : Nat))) := ⟨hB, hcur⟩
  clear hB hcur
  unfold maxLen at hs
  by_cases h8 : d.size < 8
  · have E : Hid (¬ FrameAt d) := fun h => by have := h.1; omega
    go_enter Tryz.func75, Tryz.ntmps75
    go_wp2
    refine bodyPost_ret (v := .tuple #[.string ByteArray.empty, .bool false]) (by simp [results, Tryz.results75, go_sem]; rfl) rfl ⟨⟨ByteArray.empty, by rw [frB_f E.out], fun h => absurd h E.out⟩, Below.refl _ _⟩
  have HNU : Hid (∀ W, Calls Tryz.prog 95 #[.string (d.extract 0 4)] W fun e w' => e = .returned (.int .i64 (headN d : Nat)) ∧ w' = W) := fun W => by
    rw [← head_be d]
    exact implNum_any _ W (by rw [ByteArray.size_extract]; omega)
  have HNC : Hid (∀ W, Calls Tryz.prog 95 #[.string (d.extract 4 8)] W fun e w' => e = .returned (.int .i64 (beL (sectL d 4 4) : Nat)) ∧ w' = W) := fun W => by
    rw [← crc_be d]
    exact implNum_any _ W (by rw [ByteArray.size_extract]; omega)
  have HF : Hid (∀ W, Calls Tryz.prog 42 #[.int .i64 (headN d : Int)] W fun e w' => e = .returned (.bool (btwB (headN d) 1 60000)) ∧ w' = W) := fun W => fits_any _ W
  have hne := Later.there w
  have h4i : (4 : Int) ≤ (d.size : Int) := by omega
  have h8i : (8 : Int) ≤ (d.size : Int) := by omega
  have hbz : (d.extract 8 d.size).size = d.size - 8 := by rw [ByteArray.size_extract]; omega
  by_cases h : 1 ≤ headN d ∧ headN d ≤ 60000 ∧ headN d ≤ d.size - 8
  · have HP : Hid ((d.extract 8 d.size).extract 0 (headN d) = d.extract 8 (8 + headN d)) := body_part d _ (by omega)
    have HPz : Hid (((d.extract 8 d.size).extract 0 (headN d)).size ≤ maxLen) := by
      show _ ≤ _
      rw [HP.out, part_size (by omega)]; unfold maxLen; omega
    have hb : btwB (headN d) 1 60000 = true := by simp [btwB]; omega
    rw [hb] at HF
    have HFA : Hid (FrameAt d ↔ beL (sectL d 4 4) = crcV (d.extract 8 (8 + headN d))) := ⟨fun h' => h'.2.2.2.2, fun h' => ⟨by omega, h.1, h.2.1, h.2.2, h'⟩⟩
    have hgt : ¬ ((d.size - 8 : Nat) : Int) < (headN d : Int) := by omega
    generalize headN d = N at *
    obtain ⟨hN1, hN2, hN3⟩ := h
    generalize beL (sectL d 4 4) = K at *
    go_enter Tryz.func75, Tryz.ntmps75
    go_wp2_with fail
    refine wp_region_later (by kernel_rfl) (by kernel_rfl) ?_
    repeat (go_big_quiet_step ((go_at_call 95; exact calls_later_same (HNU.out _))))
    refine wpQuiet_nil ?_
    rintro _ ⟨x, rfl⟩
    have HBx : Hid (Below w.heap.size w x.w') := x.h
    have HBB : Hid (Blk x.w' b cur 133) := HB.out.1.later x.h
    generalize x.w' = w1 at *
    clear hne
    have hne := Later.there w1
    go_wp2_with (go_at_call 42; refine (HF.out _).mono ?_; rintro e w' ⟨rfl, hw⟩; replace hw := hw.symm; subst hw)
    refine wp_region_later (by kernel_rfl) (by kernel_rfl) ?_
    repeat (go_big_quiet_step (first | (go_at_call 95; exact calls_later_same (HNC.out _)) | (go_at_call 71; exact calls_later (tabSum_any b cur _ _ HPz.out (HBB.out.later (Later.h _)) HB.out.2))))
    refine wpQuiet_nil ?_
    rintro _ ⟨y, rfl⟩
    have HBy : Hid (Below w.heap.size w y.w') := bto HBx.out y.h
    go_wp2
    refine bodyPost_ret (v := .tuple #[.string ((d.extract 8 d.size).extract 0 N), .bool ((crcV ((d.extract 8 d.size).extract 0 N) : Int) == (K : Int))]) (by simp [results, Tryz.results75, go_sem]) rfl ⟨⟨_, ?_, fun _ => HP.out⟩, HBy.out⟩
    have e : (((crcV ((d.extract 8 d.size).extract 0 N) : Nat) : Int) == (K : Int)) = frB d := by
      rw [HP.out]
      by_cases hK : K = crcV (d.extract 8 (8 + N))
      · rw [frB_t (HFA.out.2 hK), hK]; simp
      · rw [frB_f (fun h => hK (HFA.out.1 h))]
        simp; omega
    rw [e]
  · have E : Hid (¬ FrameAt d) := fun h' => h ⟨h'.2.1, h'.2.2.1, h'.2.2.2.1⟩
    have hcond : (!btwB (headN d) 1 60000) = true ∨ (!btwB (headN d) 1 60000) = false ∧ ((d.size - 8 : Nat) : Int) < (headN d : Int) := by
      simp only [btwB]
      by_cases h1 : (1 : Int) ≤ (headN d : Int) <;> by_cases h2 : ((headN d : Nat) : Int) ≤ 60000 <;> simp [h1, h2] <;> omega
    generalize btwB (headN d) 1 60000 = bb at *
    generalize headN d = N at *
    go_enter Tryz.func75, Tryz.ntmps75
    go_wp2_with fail
    refine wp_region_later (by kernel_rfl) (by kernel_rfl) ?_
    repeat (go_big_quiet_step ((go_at_call 95; exact calls_later_same (HNU.out _))))
    refine wpQuiet_nil ?_
    rintro _ ⟨x, rfl⟩
    have HBx : Hid (Below w.heap.size w x.w') := x.h
    generalize x.w' = w1 at *
    rcases hcond with hc | ⟨hc, hgt⟩
    · have hbb : bb = false := by simpa using hc
      subst hbb
      clear hc
      go_wp2_with (go_at_call 42; refine (HF.out _).mono ?_; rintro e w' ⟨rfl, hw⟩; replace hw := hw.symm; subst hw)
      refine bodyPost_ret (v := .tuple #[.string ByteArray.empty, .bool false]) (by simp [results, Tryz.results75, go_sem]; rfl) rfl ⟨⟨ByteArray.empty, by rw [frB_f E.out], fun h => absurd h E.out⟩, HBx.out⟩
    · have hbb : bb = true := by simpa using hc
      subst hbb
      clear hc
      go_wp2_with (go_at_call 42; refine (HF.out _).mono ?_; rintro e w' ⟨rfl, hw⟩; replace hw := hw.symm; subst hw)
      refine bodyPost_ret (v := .tuple #[.string ByteArray.empty, .bool false]) (by simp [results, Tryz.results75, go_sem]; rfl) rfl ⟨⟨ByteArray.empty, by rw [frB_f E.out], fun h => absurd h E.out⟩, HBx.out⟩
end Go.Proofs.YtflfopienjjlbaaGreatDoor

namespace Go.Proofs.YtflfopienjjlbaaGreatDoor
open Go.RowKit

theorem ret_str {a b : ByteArray} (h : a = b) : Ending.returned (.string a) = .returned (.string b) := by rw [h]

set_option maxRecDepth 100000 in
set_option maxHeartbeats 1000000 in
theorem specFrame_any (p : ByteArray) (w : World) (hs : p.size ≤ maxLen) :
    Calls Tryz.prog 89 #[.string p] w fun e w' => e = .returned (.string (frameS p)) ∧ Below w.heap.size w w' := by
  by_cases h : 1 ≤ p.size ∧ p.size ≤ 60000
  · have hB : btwB (p.size : Int) 1 60000 = true := by unfold btwB; simp; omega
    have E : Hid (frameS p = numS 4 p.size ++ numS 4 (crcV p : Nat) ++ p) := if_pos h
    have h1 := numS_size 4 (p.size : Int)
    have h2 := numS_size 4 ((crcV p : Nat) : Int)
    have hc := crcV_lt p
    have hp := h.2
    have HS : Hid (p.size ≤ maxLen) := hs
    clear hs h
    go_enter Tryz.func89, Tryz.ntmps89
    go_wp2_with (go_at_call 55; refine (between_any _ _ _ _).mono ?_; rintro e w' ⟨rfl, hw⟩; replace hw := hw.symm; subst hw)
    refine (specNum_any 4 (p.size : Int) _ (by omega) (by omega) (by omega)).mono ?_
    rintro e w1 ⟨rfl, hb1⟩
    go_wp2_with fail
    refine (specCrc_any p _ HS.out).mono ?_
    rintro e w' ⟨rfl, hw⟩
    replace hw := hw.symm
    subst hw
    go_wp2_with fail
    refine (specNum_any 4 ((crcV p : Nat) : Int) _ (by omega) (by omega) (by omega)).mono ?_
    rintro e w2 ⟨rfl, hb2⟩
    generalize numS 4 (p.size : Int) = A at *
    generalize numS 4 ((crcV p : Nat) : Int) = B at *
    have HB : Hid (Below w.heap.size w w2) := bto hb1 hb2
    clear hb1 hb2
    go_wp2
    go_ret
    exact ⟨ret_str E.out.symm, HB.out⟩
  · have hB : btwB (p.size : Int) 1 60000 = false := by unfold btwB; simp; omega
    have E : Hid (frameS p = ByteArray.empty) := if_neg h
    go_enter Tryz.func89, Tryz.ntmps89
    go_wp2_with (go_at_call 55; refine (between_any _ _ _ _).mono ?_; rintro e w' ⟨rfl, hw⟩; replace hw := hw.symm; subst hw)
    go_ret
    exact ⟨ret_str E.out.symm, Below.refl _ _⟩
end Go.Proofs.YtflfopienjjlbaaGreatDoor

namespace Go.Proofs.YtflfopienjjlbaaGreatDoor
open Go.RowKit

set_option maxHeartbeats 1000000 in
theorem specGet_any (s : ByteArray) (p n : Nat) (w : World) (hs : s.size ≤ maxLen) (h : p + n ≤ s.size) (hn : n ≤ 7) :
    Calls Tryz.prog 88 #[.string s, .int .i64 p, .int .i64 n] w fun e w' => e = .returned (.int .i64 (beL (sectL s p n) : Nat)) ∧ w' = w := by
  unfold maxLen at hs
  go_enter Tryz.func88, Tryz.ntmps88
  go_wp2
  go_loop [7, 8] (fun v i => ∃ (k V : Nat), k ≤ n ∧ i = .int .i64 k ∧ v = .int .i64 V ∧ Hid (V = beL (sectL s p k))) (fun _ i => n - (intOf i).toNat)
  case atStart => exact ⟨0, 0, Nat.zero_le _, rfl, rfl, rfl⟩
  case round =>
    obtain ⟨k, V, hk, rfl, rfl, hV⟩ := hrel
    have hlt64 : V < 72057594037927936 := by
      have h1 := beL_lt (sectL s p k)
      rw [sectL_length (by omega), ← hV.out] at h1
      have h2 : 256 ^ k ≤ 256 ^ 7 := Nat.pow_le_pow_right (by omega) (by omega)
      omega
    by_cases hlt : k < n
    · have hV7 : V * 256 + 255 < 9223372036854775807 := by
        have h1 := beL_lt (sectL s p k)
        rw [sectL_length (by omega), ← hV.out] at h1
        have h2 : 256 ^ k ≤ 256 ^ 6 := Nat.pow_le_pow_right (by omega) (by omega)
        omega
      have hi0 : (0 : Int) ≤ (p : Int) + (k : Int) := by omega
      have hi1 : (p : Int) + (k : Int) < (s.size : Int) := by omega
      have hi2 : p + k < s.size := by omega
      have hU := s[p + k].toNat_lt
      go_wp2
      exact ⟨⟨k + 1, V * 256 + s[p + k].toNat, by omega, by go_num, by go_num, by show _ = _; rw [sectL_snoc hi2, beL_snoc, hV.out]⟩, by simp [intOf]; omega⟩
    · go_wp2
      go_ret
      have e : k = n := by omega
      subst e
      exact ⟨ret_int (by rw [hV.out]), rfl⟩
end Go.Proofs.YtflfopienjjlbaaGreatDoor

namespace Go.Proofs.YtflfopienjjlbaaGreatDoor
open Go.RowKit

theorem str_eq {x y : ByteArray} : (x.toList == y.toList) = true ↔ x = y := ⟨fun h => toList_inj (by simpa using h), fun h => by rw [h]; simp⟩
theorem str_ne {x y : ByteArray} : (x.toList == y.toList) = false ↔ x ≠ y := by rw [← Bool.not_eq_true, str_eq]
theorem str_nil {x : ByteArray} : x.toList.isEmpty = true ↔ x = ByteArray.empty := by
  rw [List.isEmpty_iff]
  constructor
  · intro h
    exact toList_inj (by rw [h, ByteArray.toList_eq]; rfl)
  · intro h
    rw [h, ByteArray.toList_eq]; rfl
theorem str_some {x : ByteArray} : x.toList.isEmpty = false ↔ x ≠ ByteArray.empty := by rw [← Bool.not_eq_true, str_nil]

end Go.Proofs.YtflfopienjjlbaaGreatDoor

namespace Go.Proofs.YtflfopienjjlbaaGreatDoor
open Go.RowKit

set_option maxRecDepth 100000 in
set_option maxHeartbeats 1000000 in
theorem specFirst_any (d : ByteArray) (w : World) (hs : d.size ≤ maxLen) :
    Calls Tryz.prog 59 #[.string d] w fun e w' => e = .returned (.string (firstS d)) ∧ Below w.heap.size w w' := by
  have HS : Hid (d.size ≤ maxLen) := hs
  unfold maxLen at hs
  by_cases h8 : d.size < 8
  · have E : Hid (firstS d = ByteArray.empty) := if_pos h8
    go_enter Tryz.func59, Tryz.ntmps59
    go_wp2
    go_ret
    exact ⟨ret_str E.out.symm, Below.refl _ _⟩
  · have E0 : Hid (firstS d = if d.size - 8 < headN d then ByteArray.empty
      else if frameS (d.extract 8 (8 + headN d)) = ByteArray.empty ∨ frameS (d.extract 8 (8 + headN d)) ≠ d.extract 0 (8 + headN d) then ByteArray.empty
      else d.extract 8 (8 + headN d)) := if_neg h8
    have hg : ∀ w, Calls Tryz.prog 88 #[.string d, .int .i64 0, .int .i64 4] w fun e w' => e = .returned (.int .i64 (headN d : Nat)) ∧ w' = w := fun w => specGet_any d 0 4 w HS.out (by omega) (by omega)
    have HG : Hid (∀ w, Calls Tryz.prog 88 #[.string d, .int .i64 0, .int .i64 4] w fun e w' => e = .returned (.int .i64 (headN d : Nat)) ∧ w' = w) := hg
    have hN : headN d < 4294967296 := by
      have := beL_lt (sectL d 0 4)
      rw [sectL_length (by omega)] at this
      exact this
    clear hg
    have hf : ∀ w, headN d ≤ d.size - 8 → Calls Tryz.prog 89 #[.string (d.extract 8 (8 + headN d))] w fun e w' => e = .returned (.string (frameS (d.extract 8 (8 + headN d)))) ∧ Below w.heap.size w w' := fun w h => specFrame_any _ w (by rw [part_size (by omega)]; unfold maxLen; omega)
    have HFR : Hid (∀ w, headN d ≤ d.size - 8 → Calls Tryz.prog 89 #[.string (d.extract 8 (8 + headN d))] w fun e w' => e = .returned (.string (frameS (d.extract 8 (8 + headN d)))) ∧ Below w.heap.size w w') := hf
    clear hf
    generalize frameS (d.extract 8 (8 + headN d)) = F at *
    generalize headN d = N at *
    by_cases h3 : d.size - 8 < N
    · have E : Hid (firstS d = ByteArray.empty) := by show _ = _; rw [E0.out, if_pos h3]
      go_enter Tryz.func59, Tryz.ntmps59
      go_wp2_with (go_at_call 88; refine (HG.out _).mono ?_; rintro e w' ⟨rfl, hw⟩; replace hw := hw.symm; subst hw)
      go_ret
      exact ⟨ret_str E.out.symm, Below.refl _ _⟩
    · go_enter Tryz.func59, Tryz.ntmps59
      go_wp2_with (go_at_call 88; refine (HG.out _).mono ?_; rintro e w' ⟨rfl, hw⟩; replace hw := hw.symm; subst hw)
      refine (HFR.out _ (by omega)).mono ?_
      rintro e w1 ⟨rfl, hb1⟩
      have HB : Hid (Below w.heap.size w w1) := hb1
      clear hb1
      by_cases hE : F = ByteArray.empty
      · have E : Hid (firstS d = ByteArray.empty) := by show _ = _; rw [E0.out, if_neg h3, if_pos (Or.inl hE)]
        have hEb : F.toList.isEmpty = true := str_nil.2 hE
        clear hE
        go_wp2
        go_ret
        exact ⟨ret_str E.out.symm, HB.out⟩
      · have hEb : F.toList.isEmpty = false := str_some.2 hE
        by_cases hD : F = d.extract 0 (8 + N)
        · have E : Hid (firstS d = d.extract 8 (8 + N)) := by show _ = _; rw [E0.out, if_neg h3, if_neg (by intro h; rcases h with h | h; exact hE h; exact h hD)]
          have hDb : (F.toList == (d.extract 0 (8 + N)).toList) = true := str_eq.2 hD
          clear hE hD
          go_wp2
          go_ret
          exact ⟨ret_str E.out.symm, HB.out⟩
        · have E : Hid (firstS d = ByteArray.empty) := by show _ = _; rw [E0.out, if_neg h3, if_pos (Or.inr hD)]
          have hDb : (F.toList == (d.extract 0 (8 + N)).toList) = false := str_ne.2 hD
          clear hE hD
          go_wp2
          go_ret
          exact ⟨ret_str E.out.symm, HB.out⟩
end Go.Proofs.YtflfopienjjlbaaGreatDoor

namespace Go.Proofs.YtflfopienjjlbaaGreatDoor
open Go.RowKit

theorem conv_one (w : World) (n : Int) : (convert 41 9 (.slice (some ⟨w.heap.size, 0, none⟩) 1 1)).run Tryz.prog (w.alloc (.cells #[.int .u8 n] 5)) = .ok (.string ⟨#[UInt8.ofNat n.toNat]⟩) (w.alloc (.cells #[.int .u8 n] 5)) := by
  rw [run_convert_bytes_string _ 41 9 5 _ 1 1 Tryz.underlying41 Tryz.underlying5 Tryz.underlying9, run_bytesToString _ _ 1 1 [n] (by simp [go_sem, loadCells])]
  rfl

theorem str_one (c : UInt8) (s : ByteArray) : ((⟨#[c]⟩ : ByteArray) ++ s).data.toList = c :: s.data.toList := by
  simp

theorem str_one_size (c : UInt8) (s : ByteArray) : ((⟨#[c]⟩ : ByteArray) ++ s).size = s.size + 1 := by
  rw [ByteArray.size_append]; show 1 + s.size = _; omega

theorem mk_toList (s : ByteArray) (l : List UInt8) (h : s.data.toList = l) : s = ⟨l.toArray⟩ := by
  subst h; simp

end Go.Proofs.YtflfopienjjlbaaGreatDoor

namespace Go.Proofs.YtflfopienjjlbaaGreatDoor
open Go.RowKit

theorem digits_pos {n : Nat} (h : 0 < n) (acc : List UInt8) : digits n n acc = digits (n / 10) (n / 10) ((48 + UInt8.ofNat (n % 10)) :: acc) := by
  obtain ⟨m, rfl⟩ : ∃ m, n = m + 1 := ⟨n - 1, by omega⟩
  conv => lhs; rw [digits]
  rw [if_neg (by omega)]
  exact digits_fuel _ _ _ _ (by omega) (Nat.le_refl _)

set_option maxRecDepth 100000 in
set_option maxHeartbeats 1000000 in
theorem markText_any (k : Nat) (w : World) (h0 : 0 < k) (h1 : k ≤ 1000000000) :
    Calls Tryz.prog 40 #[.int .i64 (k : Int)] w fun e w' => e = .returned (.string (mt k)) ∧ Below w.heap.size w w' := by
  have hk : ¬ ((k : Int) ≤ 0) := by omega
  have hcv := conv_one
  go_enter Tryz.func40, Tryz.ntmps40
  go_wp2
  go_loopw [0, 3] (fun a s wr => ∃ (n : Nat) (st : ByteArray), st.size + n ≤ k ∧ a = .int .i64 n ∧ s = .string st ∧ digits n n st.data.toList = digits k k [] ∧ Below w.heap.size w wr) (fun a _ _ => (intOf a).toNat)
  case atStart => exact ⟨k, ByteArray.empty, by simp, rfl, rfl, rfl, Below.refl _ _⟩
  case round =>
    obtain ⟨n, st, hn, rfl, rfl, hd, hbel⟩ := hrel
    have HD : Hid (digits n n st.data.toList = digits k k []) := hd
    clear hd
    have hsz : (st.size : Int) ≤ 1000000000 := by omega
    by_cases hp : 0 < n
    · go_wp2
      refine ⟨⟨n / 10, _, ?_, by go_num, rfl, ?_, hbel.alloc hbel.size _⟩, by simp [intOf]; omega⟩
      · rw [str_one_size]; omega
      · rw [str_one, ← digits_pos hp]; exact HD.out
    · go_wp2
      go_ret
      refine ⟨?_, hbel⟩
      have e0 : n = 0 := by omega
      have hd := HD.out
      rw [e0] at hd
      have e : st.data.toList = digits k k [] := by rw [← hd]; rfl
      have e2 : ((⟨#[109]⟩ : ByteArray) ++ st) = mt k := by
        unfold mt
        exact mk_toList _ _ (by rw [str_one, e])
      exact congrArg (fun x => Ending.returned (.string x)) e2

theorem markText_int (k : Int) (n : Nat) (hk : k = (n : Int)) (w : World) (h0 : 0 < n) (h1 : n ≤ 1000000000) :
    Calls Tryz.prog 40 #[.int .i64 k] w fun e w' => e = .returned (.string (mt n)) ∧ Below w.heap.size w w' := hk ▸ markText_any n w h0 h1
end Go.Proofs.YtflfopienjjlbaaGreatDoor

namespace Go.Proofs.YtflfopienjjlbaaGreatDoor
open Go.RowKit

/-- A slice's address holds these strings (nothing is asked where there are none). -/
def StrsIn (w : World) (a : Option Addr) (l : List ByteArray) : Prop := l = [] ∨ ∃ b o, a = some ⟨b, o, none⟩ ∧ b < w.heap.size ∧ ∀ i (h : i < l.length), w.cell? ⟨b, o + i, none⟩ = some (.string l[i])
theorem StrsIn.later {w w' : World} {a : Option Addr} {l : List ByteArray} (h : StrsIn w a l) (hb : Below w.heap.size w w') : StrsIn w' a l := by
  rcases h with h | ⟨b, o, rfl, hlt, h⟩
  · exact Or.inl h
  · exact Or.inr ⟨b, o, rfl, Nat.lt_of_lt_of_le hlt hb.size, fun i hi => by rw [← h i hi]; exact hb.cell hlt⟩
theorem StrsIn.at {w : World} {a : Option Addr} {l : List ByteArray} (h : StrsIn w a l) {i : Nat} (hi : i < l.length) : ∃ b o, a = some ⟨b, o, none⟩ ∧ b < w.heap.size ∧ w.cell? ⟨b, o + i, none⟩ = some (.string l[i]) := by
  rcases h with rfl | ⟨b, o, rfl, hlt, h⟩
  · exact absurd hi (by simp)
  · exact ⟨b, o, rfl, hlt, h i hi⟩
/-- The strings lie in a block of their own, from B on, that may be written. -/
def StrsOwn (w : World) (B : Nat) (a : Option Addr) (l : List ByteArray) : Prop :=
  l = [] ∨ ∃ g o cur t, a = some ⟨g, o, none⟩ ∧ B ≤ g ∧ w.heap[g]? = some (.cells cur t (0, 0)) ∧ ∀ i (h : i < l.length), w.cell? ⟨g, o + i, none⟩ = some (.string l[i])
theorem StrsOwn.strs {w : World} {B : Nat} {a : Option Addr} {l : List ByteArray} (h : StrsOwn w B a l) : StrsIn w a l := by
  rcases h with h | ⟨g, o, cur, t, e, _, hb, h⟩
  · exact Or.inl h
  · exact Or.inr ⟨g, o, e, lt_of_block hb, h⟩
theorem StrsOwn.later {w w' : World} {B : Nat} {a : Option Addr} {l : List ByteArray} (h : StrsOwn w B a l) (hb : Below w.heap.size w w') : StrsOwn w' B a l := by
  rcases h with h | ⟨g, o, cur, t, e, hB, hg, h⟩
  · exact Or.inl h
  · have hlt := lt_of_block hg
    exact Or.inr ⟨g, o, cur, t, e, hB, (hb.block g hlt).trans hg, fun i hi => by rw [← h i hi]; exact hb.cell hlt⟩
theorem strs_of_row {w : World} {B : Nat} {e : TypeId} {a : Option Addr} {cap : Nat} {l : List ByteArray} (h : w.ownsRow B e 1 (.slice a l.length cap) l.length (l.map Value.string)) : StrsOwn w B a l := by
  rcases h.2 with ⟨_, hl⟩ | ⟨g, cap', cur, he, hB, hg, _, _, hsz, htk⟩
  · exact Or.inl (List.length_eq_zero_iff.1 hl)
  · simp only [Value.slice.injEq] at he
    refine Or.inr ⟨g, 0, cur, e, he.1, hB, hg, fun i hi => ?_⟩
    rw [Nat.zero_add, cell_of_row w g i cur _ _ hg]
    have h2 : (cur.toList.take (l.length * 1))[i]? = (l.map Value.string)[i]? := by rw [htk]
    rw [List.getElem?_take_of_lt (by omega)] at h2
    rw [← Array.getElem?_toList, h2]
    simp [List.getElem?_eq_getElem hi]

theorem info_str : ∃ i, Tryz.prog.info? 9 = some i ∧ i.zero = some (.string ByteArray.empty) ∧ i.size = 1 ∧ i.bytes = 16 := by
  have h : (Tryz.prog.info? 9).map (fun i => (i.zero, i.size, i.bytes)) = some (some (.string ByteArray.empty), 1, 16) := by kernel_rfl
  obtain ⟨i, hi, hz⟩ := Option.map_eq_some_iff.1 h
  simp only [Prod.mk.injEq] at hz
  exact ⟨i, hi, hz.1, hz.2.1, hz.2.2⟩

end Go.Proofs.YtflfopienjjlbaaGreatDoor



