import Derived.Test.YtmggmbidihjblaaDoorProg
import Derived.Test.YtmggmbidihjblaaDoorShelf
import Derived.Test.YtmggmbidihjblaaDoorS7Nm
import Derived.Lib.Strings
import Derived.Lib.Walk
import Derived.Lib.ConvBytes
import Derived.Lib.Hide
import Derived.Laws.Strings3
import Derived.Laws.Closers25
import Derived.Laws.Closers25b
import Derived.BigCall
import Derived.BigGuard
namespace Go.Proofs.YtmggmbidihjblaaDoor
open Go.RowKit

/-- What internal/strconv.ParseUint hands back for at most 13 bytes. -/
def puV (l : List UInt8) : Value := if l.all digB = true ∧ l ≠ [] then .tuple #[.int .u64 (valD l : Int), .nilIface] else .tuple #[.int .u64 0, .iface 58 (.int .i64 2)]
theorem puV_yes {l : List UInt8} (h : l.all digB = true) (hne : l ≠ []) : puV l = .tuple #[.int .u64 (valD l : Int), .nilIface] := by unfold puV; rw [if_pos ⟨h, hne⟩]
theorem puV_no {l : List UInt8} {k : Nat} (hk : k < l.length) (h : digB l[k] = false) : puV l = .tuple #[.int .u64 0, .iface 58 (.int .i64 2)] := by
  unfold puV
  rw [if_neg]
  intro e
  have := List.all_eq_true.1 e.1 _ (List.getElem_mem hk)
  rw [h] at this
  exact absurd this (by decide)

set_option maxHeartbeats 8000000 in
set_option maxRecDepth 100000 in
theorem parse63_some (t : ByteArray) (h0 : t.size ≠ 0) (h13 : t.size ≤ 13) (w : World) :
    Calls Tryd.prog 25 #[.string t, .int .i64 10, .int .i64 63] w fun e w' => e = .returned (puV t.data.toList) ∧ Below w.heap.size w w' := by
  have hemp : t.toList.isEmpty = false := by
    rw [← decide_eq_emptyBytes]
    exact decide_eq_false (fun h => h0 (by rw [h]; rfl))
  have hcv := Lib.run_convert_string_bytes (P := Tryd.prog) w 9 60 5 t (u := .string) Tryd.underlying9 Tryd.underlying60 Tryd.underlying5
  have hbe : Below w.heap.size w (Lib.bytesWorld w 5 t) := Lib.bytesWorld_below _ _ _
  have hB : ∀ j, j < t.size → (Lib.bytesWorld w 5 t).cell? ⟨w.heap.size, j, none⟩ = some (.int .u8 (t.data.toList.getD j 0).toNat) := fun j hj => Lib.bytesWorld_cell w 5 t j hj
  generalize Lib.bytesWorld w 5 t = W1 at *
  have hLn : t.data.toList.length = t.size := Array.length_toList
  generalize t.data.toList = bs at *
  have HB : Hid (∀ j (h : j < bs.length), W1.cell? ⟨w.heap.size, j, none⟩ = some (.int .u8 bs[j].toNat)) := fun j h => by
    have := hB j (by omega)
    rwa [List.getD_eq_getElem?_getD, List.getElem?_eq_getElem h, Option.getD_some] at this
  have HE : Hid (Below w.heap.size w W1) := hbe
  clear hB hbe
  go_enter Tryd.func25, Tryd.ntmps25
  go_wp2
  go_loop [12, 13, 101] (fun us nn ix => ∃ (k : Nat) (v : Int), us = .bool false ∧ nn = .int .u64 v ∧ ix = .int .i64 k ∧ k ≤ t.size ∧ 0 ≤ v ∧ v < 10000000000000 ∧ Hid ((bs.take k).all digB = true ∧ v = (valD (bs.take k) : Int)))
    (fun _ _ ix => t.size - (intOf ix).toNat)
  case atStart => exact ⟨0, 0, rfl, rfl, rfl, by omega, by omega, by omega, by rw [List.take_zero]; exact ⟨rfl, rfl⟩⟩
  case round =>
    obtain ⟨k, v, rfl, rfl, rfl, hk, hv0, hv1, HV⟩ := hrel
    by_cases hlt : k < t.size
    · have hlt' : k < bs.length := by omega
      have hc := HB.out k hlt'
      have hsn := take_snoc7 hlt'
      by_cases hd : 48 ≤ bs[k].toNat ∧ bs[k].toNat ≤ 57
      · have HW : Hid ((bs.take (k + 1)).all digB = true ∧ v * 10 + ((bs[k].toNat : Int) - 48) = (valD (bs.take (k + 1)) : Int)) := by
          show _ ∧ _
          have hdb : digB bs[k] = true := decide_eq_true hd
          rw [hsn, List.all_append, HV.out.1, valD_snoc]
          refine ⟨by simp [hdb], ?_⟩
          rw [HV.out.2]
          omega
        have hb : v * 10 + ((bs[k].toNat : Int) - 48) < 10000000000000 := by
          rw [HW.out.2]
          have := valD_13 HW.out.1 (by rw [List.length_take]; omega)
          omega
        clear hsn HV
        generalize bs[k] = c at *
        obtain ⟨hd0, hd1⟩ := hd
        have g0 : v < 1844674407370955162 := by omega
        have g1 : v * 10 + ((c.toNat : Int) - 48) < 9223372036854775808 := by omega
        have g2 : 0 ≤ v * 10 + ((c.toNat : Int) - 48) := by omega
        go_wp2
        exact ⟨⟨k + 1, v * 10 + ((c.toNat : Int) - 48), rfl, (by first | rfl | (congr 1; omega)), (by go_num), by omega, g2, hb, HW.out⟩, by simp [intOf]; omega⟩
      · have HN : Hid (puV bs = .tuple #[.int .u64 0, .iface 58 (.int .i64 2)]) := puV_no hlt' (decide_eq_false hd)
        have hc256 : bs[k].toNat < 256 := bs[k].toNat_lt
        clear hsn HV
        generalize bs[k] = c at *
        have q0 := bits_lo_u8 .or (c.toNat : Int) 32
        have q1 := bits_hi_u8 .or (c.toNat : Int) 32
        have r0 := bits_lo_u8 .or 95 32
        have r1 := bits_hi_u8 .or 95 32
        go_wp2_with (go_at_call 31; refine (Tryd.internal_strconv_lower _ _).mono ?_; rintro e w' ⟨rfl, rfl⟩)
        all_goals go_ret2
        all_goals exact ⟨(congrArg Ending.returned HN.out).symm, HE.out⟩
    · obtain rfl : k = t.size := by omega
      have HW : Hid (puV bs = .tuple #[.int .u64 v, .nilIface]) := by
        have := HV.out
        rw [List.take_of_length_le (by omega)] at this
        show _ = _
        rw [puV_yes this.1 (fun e => h0 (by rw [← hLn, e]; rfl)), this.2]
      clear HV
      go_wp2
      go_ret2
      exact ⟨(congrArg Ending.returned HW.out).symm, HE.out⟩

set_option maxHeartbeats 2000000 in
set_option maxRecDepth 100000 in
theorem parse63_none (w : World) :
    Calls Tryd.prog 25 #[.string ByteArray.empty, .int .i64 10, .int .i64 63] w fun e w' => e = .returned (.tuple #[.int .u64 0, .iface 58 (.int .i64 2)]) ∧ Below w.heap.size w w' := by
  go_enter Tryd.func25, Tryd.ntmps25
  go_wp2
  go_ret2
  exact ⟨rfl, Below.refl _ _⟩

/-- The variable that strconv's syntax errors hold is there. -/
def SynTab (w : World) : Prop := ∃ t p, w.cell? ⟨1, 0, none⟩ = some (.iface t p)
theorem SynTab.later {L : Nat} {w w' : World} (h : SynTab w) (hb : Below L w w') (hL : 6 ≤ L) : SynTab w' := by
  obtain ⟨t, p, h⟩ := h
  exact ⟨t, p, (hb.cell (show 1 < L from Nat.lt_of_lt_of_le (by decide) hL)).trans h⟩

set_option maxHeartbeats 2000000 in
set_option maxRecDepth 100000 in
/-- strconv.ParseUint(s, 10, 63) of at most 13 bytes. -/
theorem pu63_any (t : ByteArray) (h13 : t.size ≤ 13) (w : World) (hs : SynTab w) :
    Calls Tryd.prog 23 #[.string t, .int .i64 10, .int .i64 63] w fun e w' => (if t.data.toList.all digB = true ∧ t.size ≠ 0 then e = .returned (.tuple #[.int .u64 (valD t.data.toList : Int), .nilIface]) else ∃ a p, e = .returned (.tuple #[.int .u64 0, .iface a p])) ∧ Below w.heap.size w w' := by
  have hI : Calls Tryd.prog 25 #[.string t, .int .i64 10, .int .i64 63] w fun e w' => e = .returned (puV t.data.toList) ∧ Below w.heap.size w w' := by
    by_cases h0 : t.size = 0
    · have ht : t = ByteArray.empty := by
        apply ByteArray.ext
        exact Array.eq_empty_of_size_eq_zero h0
      subst ht
      exact parse63_none w
    · exact parse63_some t h0 h13 w
  obtain ⟨tt, pp, hs⟩ := hs
  have HG : Hid (1 < w.heap.size) := Lib.lt_of_cell hs
  by_cases hd : t.data.toList.all digB = true ∧ t.size ≠ 0
  · simp only [if_pos hd]
    rw [puV_yes hd.1 (fun e => hd.2 (by rw [show t.size = t.data.toList.length from Array.length_toList.symm, e]; rfl))] at hI
    generalize valD t.data.toList = V at *
    have HI : Hid (Calls Tryd.prog 25 #[.string t, .int .i64 10, .int .i64 63] w fun e w' => e = .returned (.tuple #[.int .u64 (V : Int), .nilIface]) ∧ Below w.heap.size w w') := hI
    clear hI hs hd
    go_enter Tryd.func23, Tryd.ntmps23
    go_wp2_with fail
    refine HI.out.mono ?_
    rintro e w1 ⟨rfl, hb⟩
    go_wp2
    go_ret2
    exact ⟨rfl, hb⟩
  · simp only [if_neg hd]
    have hpu : puV t.data.toList = .tuple #[.int .u64 0, .iface 58 (.int .i64 2)] := by
      unfold puV
      rw [if_neg]
      rintro ⟨h1, h2⟩
      exact hd ⟨h1, fun e => h2 (List.length_eq_zero_iff.1 (by rw [Array.length_toList]; exact e))⟩
    rw [hpu] at hI
    have HI : Hid (Calls Tryd.prog 25 #[.string t, .int .i64 10, .int .i64 63] w fun e w' => e = .returned (.tuple #[.int .u64 0, .iface 58 (.int .i64 2)]) ∧ Below w.heap.size w w') := hI
    have HS : Hid (w.cell? ⟨1, 0, none⟩ = some (.iface tt pp)) := hs
    clear hI hs hpu hd
    go_enter Tryd.func23, Tryd.ntmps23
    go_wp2_with fail
    refine HI.out.mono ?_
    rintro e w1 ⟨rfl, hb⟩
    have HB : Hid (Below w.heap.size w w1) := hb
    have hv1 : w1.cell? ⟨1, 0, none⟩ = some (.iface tt pp) := (hb.cell HG.out).trans HS.out
    clear hb
    go_wp2_with fail
    refine (Tryd.strconv_toError_syntax _ t 10 63 (.iface tt pp) _ (by omega) hv1 (Or.inr ⟨_, _, rfl⟩)).mono ?_
    rintro e w2 ⟨N, rfl, _, _, hb2⟩
    go_wp2
    go_ret2
    exact ⟨⟨_, _, rfl⟩, bto HB.out hb2⟩
end Go.Proofs.YtmggmbidihjblaaDoor
