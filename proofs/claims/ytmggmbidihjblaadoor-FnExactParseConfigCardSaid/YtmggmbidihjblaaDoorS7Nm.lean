import Derived.Test.YtmggmbidihjblaaDoorProg
import Derived.Test.YtmggmbidihjblaaDoorS7Sp
import Derived.Test.YtmggmbidihjblaaDoorBtw
import Derived.BigQuiet
namespace Go.Proofs.YtmggmbidihjblaaDoor
open Go.RowKit

theorem dig_ext {n : Nat} (h : n < 10) : (⟨#[48, 49, 50, 51, 52, 53, 54, 55, 56, 57]⟩ : ByteArray).extract n (n + 1) = baL [UInt8.ofNat (48 + n)] := by
  have : ∀ m, m < 10 → (⟨#[48, 49, 50, 51, 52, 53, 54, 55, 56, 57]⟩ : ByteArray).extract m (m + 1) = baL [UInt8.ofNat (48 + m)] := by decide
  exact this n h
theorem baL_app (a b : List UInt8) : baL a ++ baL b = baL (a ++ b) := by
  unfold baL
  apply ByteArray.ext
  rw [ByteArray.data_append]
  simp

theorem decD_len : ∀ n : Nat, (decD n).length ≤ n + 1 := by
  intro n
  induction n using Nat.strongRecOn with
  | ind n ih =>
    by_cases h : n < 10
    · rw [decD_lo h]; simp
    · have := ih (n / 10) (by omega)
      rw [decD_hi h, List.length_append, List.length_singleton]
      omega

set_option maxRecDepth 100000 in
set_option maxHeartbeats 1000000 in
theorem specDec_any : ∀ (n : Nat) (w : World), n < 10000000000000 →
    Calls Tryd.prog 16 #[.int .i64 (n : Int)] w fun e w' => e = .returned (.string (baL (decD n))) ∧ Below w.heap.size w w' := by
  intro n
  induction n using Nat.strongRecOn with
  | ind n ih =>
    intro w hn
    by_cases h : n < 10
    · have HE : Hid ((⟨#[48, 49, 50, 51, 52, 53, 54, 55, 56, 57]⟩ : ByteArray).extract n (n + 1) = baL (decD n)) := by show _ = _; rw [decD_lo h]; exact dig_ext h
      clear ih
      go_enter Tryd.func16, Tryd.ntmps16
      go_wp2
      go_ret
      exact ⟨by rw [← HE.out]; rfl, Below.refl _ _⟩
    · have HC : Hid (∀ W, Calls Tryd.prog 16 #[.int .i64 ((n / 10 : Nat) : Int)] W fun e w' => e = .returned (.string (baL (decD (n / 10)))) ∧ Below W.heap.size W w') := fun W => ih (n / 10) (by omega) W (by omega)
      have HE : Hid (baL (decD (n / 10)) ++ (⟨#[48, 49, 50, 51, 52, 53, 54, 55, 56, 57]⟩ : ByteArray).extract (n % 10) (n % 10 + 1) = baL (decD n)) := by
        show _ = _
        rw [decD_hi h, dig_ext (Nat.mod_lt _ (by decide)), baL_app]
      have hsz : (baL (decD (n / 10))).size ≤ n + 1 := by rw [baL_size]; have := decD_len (n / 10); omega
      have hs2 : ((⟨#[48, 49, 50, 51, 52, 53, 54, 55, 56, 57]⟩ : ByteArray).extract (n % 10) (n % 10 + 1)).size = 1 := by rw [dig_ext (Nat.mod_lt _ (by decide)), baL_size]; rfl
      clear ih
      generalize hD : baL (decD (n / 10)) = D at *
      generalize hR : baL (decD n) = R at *
      clear hD hR
      have hnel := Later.there w
      go_enter Tryd.func16, Tryd.ntmps16
      go_wp2_with fail
      refine wp_region_later (by kernel_rfl) (by kernel_rfl) ?_
      repeat (go_big_quiet_step (first | (go_at_call 16; exact calls_later (HC.out _)) | fail))
      refine wpQuiet_nil ?_
      rintro _ ⟨y, rfl⟩
      go_wp2
      go_ret
      exact ⟨by rw [← HE.out]; rfl, y.h⟩

theorem take_snoc7 {l : List UInt8} {k : Nat} (h : k < l.length) : l.take (k + 1) = l.take k ++ [l[k]] := by
  rw [List.take_add_one, List.getElem?_eq_getElem h, Option.toList_some]
theorem numB_len {l : List UInt8} (h : ¬ (1 ≤ l.length ∧ l.length ≤ 13)) : numB l = false := by
  unfold numB
  rw [decide_eq_false h, Bool.false_and, Bool.false_and]
theorem numB_dg {l : List UInt8} {k : Nat} (hk : k < l.length) (h : digB l[k] = false) : numB l = false := by
  have : l.all digB = false := by
    rw [List.all_eq_false]
    exact ⟨l[k], List.getElem_mem hk, by rw [h]; decide⟩
  unfold numB
  rw [this, Bool.and_false, Bool.false_and]

set_option maxRecDepth 100000 in
set_option maxHeartbeats 2000000 in
theorem specNumF_any (s : ByteArray) (w : World) (hs : s.size ≤ 1048576) :
    Calls Tryd.prog 8 #[.string s] w fun e w' => ∃ v : Int, e = .returned (.tuple #[.int .i64 v, .bool (numB s.data.toList)]) ∧ (numB s.data.toList = true → v = (valD s.data.toList : Int)) ∧ Below w.heap.size w w' := by
  have hlen : s.data.toList.length = s.size := Array.length_toList
  by_cases h1 : 1 ≤ s.size ∧ s.size ≤ 13
  · have HB : Hid (btwB (s.size : Int) 1 13 = true) := by show _ = _; simp [btwB]; omega
    have h13 := h1.2
    have hge := h1.1
    have HL : Hid (1 ≤ s.data.toList.length ∧ s.data.toList.length ≤ 13) := by show _ ∧ _; rw [hlen]; exact h1
    clear h1
    go_enter Tryd.func8, Tryd.ntmps8
    go_wp2_with fail
    refine (between_any _ _ _ _).mono ?_
    rintro e w1 ⟨rfl, hw⟩
    rw [HB.out]
    replace hw := hw.symm
    subst hw
    go_wp2
    go_loop [4, 5] (fun vn vi => ∃ (k : Nat) (v : Int), k ≤ s.size ∧ vn = .int .i64 v ∧ vi = .int .i64 k ∧ 0 ≤ v ∧ v < 10000000000000 ∧ Hid ((s.data.toList.take k).all digB = true ∧ v = (valD (s.data.toList.take k) : Int))) (fun _ vi => s.size - (intOf vi).toNat)
    case atStart => exact ⟨0, 0, Nat.zero_le _, rfl, rfl, by omega, by omega, by rw [List.take_zero]; exact ⟨rfl, rfl⟩⟩
    case round =>
      obtain ⟨k, v, hk, rfl, rfl, hv0, hv1, HV⟩ := hrel
      by_cases hlt : k < s.size
      · have hU : s[k].toNat < 256 := s[k].toNat_lt
        have hlt' : k < s.data.toList.length := by omega
        have HE : Hid (s.data.toList[k] = s[k]) := by show _ = _; rw [Array.getElem_toList]; rfl
        by_cases hd : 48 ≤ s[k].toNat ∧ s[k].toNat ≤ 57
        · have HW : Hid ((s.data.toList.take (k + 1)).all digB = true ∧ v * 10 + ((s[k].toNat : Int) - 48) = (valD (s.data.toList.take (k + 1)) : Int)) := by
            show _ ∧ _
            have hdb : digB s.data.toList[k] = true := by rw [HE.out]; exact decide_eq_true hd
            rw [take_snoc7 hlt', List.all_append, HV.out.1, valD_snoc, HE.out]
            refine ⟨by rw [HE.out] at hdb; simp [hdb], ?_⟩
            rw [HV.out.2]
            omega
          have hb : v * 10 + ((s[k].toNat : Int) - 48) < 10000000000000 := by
            rw [HW.out.2]
            have := valD_13 HW.out.1 (by rw [List.length_take]; omega)
            omega
          obtain ⟨hd1, hd2⟩ := hd
          have i1 : ¬ ((s[k].toNat : Int) < 48) := by omega
          have i2 : ¬ ((57 : Int) < (s[k].toNat : Int)) := by omega
          clear HL
          go_wp2
          refine ⟨⟨k + 1, v * 10 + ((s[k].toNat : Int) - 48), by omega, ?_, by go_num, by omega, hb, HW.out⟩, by simp [intOf]; omega⟩
          go_num
        · have HN : Hid (numB s.data.toList = false) := numB_dg hlt' (by rw [HE.out]; exact decide_eq_false hd)
          have i1 : (s[k].toNat : Int) < 48 ∨ (57 : Int) < (s[k].toNat : Int) := by omega
          clear HL hd
          go_wp2
          all_goals
            refine bodyPost_ret (v := .tuple #[.int .i64 0, .bool false]) (by simp [results, Tryd.results8, go_sem]) rfl ⟨0, by rw [HN.out], fun h => absurd (h.symm.trans HN.out) (by decide), Below.refl _ _⟩
      · obtain rfl : k = s.size := by omega
        have HW : Hid (s.data.toList.all digB = true ∧ v = (valD s.data.toList : Int)) := by
          have := HV.out
          rwa [List.take_of_length_le (by omega)] at this
        obtain ⟨n, rfl⟩ : ∃ n : Nat, v = (n : Int) := ⟨v.toNat, by omega⟩
        have HC : Hid (∀ W, Calls Tryd.prog 16 #[.int .i64 (n : Int)] W fun e w' => e = .returned (.string (baL (decD n))) ∧ Below W.heap.size W w') := fun W => specDec_any n W (by omega)
        have HF : Hid (((baL (decD n)).toList == s.toList) = numB s.data.toList ∧ (n : Int) = (valD s.data.toList : Int)) := by
          refine ⟨?_, HW.out.2⟩
          have e1 : n = valD s.data.toList := by have := HW.out.2; omega
          rw [← decD_iff HW.out.1 HL.out, ← e1, ByteArray.toList_eq, ByteArray.toList_eq, baL_list]
          rw [Bool.eq_iff_iff, beq_iff_eq, decide_eq_true_eq]
        clear HV HW HL
        generalize baL (decD n) = D at *
        go_wp2_with fail
        refine (HC.out _).mono ?_
        rintro e w1 ⟨rfl, hb1⟩
        go_wp2
        refine bodyPost_ret (v := .tuple #[.int .i64 n, .bool (D.toList == s.toList)]) (by simp [results, Tryd.results8, go_sem]) rfl ⟨n, by rw [HF.out.1], fun _ => HF.out.2, hb1⟩
  · have HB : Hid (btwB (s.size : Int) 1 13 = false) := by show _ = _; simp [btwB]; omega
    have HN : Hid (numB s.data.toList = false) := numB_len (by rw [hlen]; exact h1)
    go_enter Tryd.func8, Tryd.ntmps8
    go_wp2_with fail
    refine (between_any _ _ _ _).mono ?_
    rintro e w1 ⟨rfl, hw⟩
    rw [HB.out]
    replace hw := hw.symm
    subst hw
    go_wp2
    refine bodyPost_ret (v := .tuple #[.int .i64 0, .bool false]) (by simp [results, Tryd.results8, go_sem]) rfl ⟨0, by rw [HN.out], fun h => absurd (h.symm.trans HN.out) (by decide), Below.refl _ _⟩
end Go.Proofs.YtmggmbidihjblaaDoor
