import Derived.Test.YteohobkigjmjlaaDoorProg
import Derived.Test.YteohobkigjmjlaaDoorSRune
import Derived.Test.YteohobkigjmjlaaDoorIntsL
namespace Go.Proofs.YteohobkigjmjlaaDoor
open Go.RowKit

def runI (acc : List Nat) : List Int := acc.map fun (r : Nat) => (r : Int)
theorem runI_len (acc : List Nat) : (runI acc).length = acc.length := by simp [runI]
theorem runI_snoc (acc : List Nat) (r : Nat) : runI (acc ++ [r]) = runI acc ++ [(r : Int)] := by simp [runI]
theorem ctl_btw (r : Nat) (h : ¬ r < 32) : btwB (r : Int) 127 159 = ctl r := by
  unfold btwB ctl
  rw [Bool.eq_iff_iff]
  simp
  omega
theorem any_split (l : List Nat) (k : Nat) (h : k < l.length) : l.any ctl = ((l.take k).any ctl || (ctl l[k] || (l.drop (k + 1)).any ctl)) := by
  have e := List.take_append_drop k l
  rw [List.drop_eq_getElem_cons h] at e
  rw [← List.any_cons, ← List.any_append, e]

set_option maxRecDepth 100000 in
set_option maxHeartbeats 2000000 in
theorem specVal_any (s : ByteArray) (w : World) (hs : s.size ≤ 1000000000) :
    Calls Tryd.prog 26 #[.string s] w fun e w' => e = .returned (.int .i64 (valV s : Nat)) ∧ Below w.heap.size w w' := by
  obtain ⟨ti, hti, hz0, hz1, hz2⟩ := info_num
  have HI : Hid (Tryd.prog.info? 3 = some ti) := hti
  clear hti
  go_enter Tryd.func26, Tryd.ntmps26
  go_wp2
  go_loopw [3, 4, 5, 6] (fun out at_ _ _ wr => ∃ (p : Nat) (acc : List Nat) (av : Option Addr) (cv : Nat), p ≤ s.size ∧ acc.length ≤ p ∧ Hid (RInv s p acc ∧ ∀ i (h : i < acc.length), acc[i] ≤ 1114111) ∧ at_ = .int .i64 p ∧ out = .slice av acc.length cv ∧ Hid (wr.ownsRow w.heap.size 3 1 (.slice av acc.length cv) acc.length ((runI acc).map (Value.int .i64))) ∧ Below w.heap.size w wr) (fun _ at_ _ _ _ => s.size - (intOf at_).toNat)
  case atStart =>
    exact ⟨0, [], _, _, Nat.zero_le _, Nat.zero_le _, ⟨RInv.start s, fun i h => absurd h (by simp)⟩, rfl, rfl, World.ownsRow_made w #[] 0 (Nat.le_refl _) (by simp [maxLen]) (by simp), bnew _ _⟩
  case round =>
    obtain ⟨p, acc, av, cv, hp, hac, HR, rfl, rfl, hrow, hbel⟩ := hrel
    have hsz := hbel.size
    by_cases hlt : p < s.size
    · have hz : (s.extract p s.size).size = s.size - p := by simp
      have hfi := fun W => specRune_any (s.extract p s.size) W (by omega) (by unfold maxLen; omega)
      rw [l3r_at] at hfi
      by_cases hd : Utf8.decode s p = (65533, 1)
      · rw [if_pos hd] at hfi
        have HFI : Hid (∀ W, Calls Tryd.prog 48 #[.string (s.extract p s.size)] W fun e w' => e = .returned (.tuple #[.int .i64 0, .int .i64 0]) ∧ w' = W) := hfi
        have HE : Hid (valV s = 42) := HR.out.1.bad hlt hd
        clear hfi hd hz
        go_wp2_with fail
        refine (HFI.out _).mono ?_
        rintro e w1 ⟨rfl, hw⟩
        replace hw := hw.symm
        subst hw
        go_wp2
        go_ret
        exact ⟨ret_int (by rw [HE.out]; rfl), hbel⟩
      · rw [if_neg hd] at hfi
        have hpos := decode_pos s p
        have hfit := decode_fits s p hlt hd
        have hrun := decode_rune s p
        have HST : Hid (RInv s (p + (Utf8.decode s p).2) (acc ++ [(Utf8.decode s p).1])) := HR.out.1.step hlt hd
        generalize (Utf8.decode s p).1 = R at *
        generalize (Utf8.decode s p).2 = N at *
        have HFI : Hid (∀ W, Calls Tryd.prog 48 #[.string (s.extract p s.size)] W fun e w' => e = .returned (.tuple #[.int .i64 (R : Nat), .int .i64 (N : Nat)]) ∧ w' = W) := hfi
        have hn0 : ((N : Int) == 0) = false := by simp; omega
        obtain ⟨hr1, hr2⟩ := hrun
        clear hfi hd hz
        go_wp2_with fail
        refine (HFI.out _).mono ?_
        rintro e w1 ⟨rfl, hw⟩
        replace hw := hw.symm
        subst hw
        go_wp2_with (at_builtin; refine wpList_append_lies _ rfl _ _ _ rfl w.heap.size 3 ti _ 1 8 Tryd.underlying69 HI.out hz0 hz1 hz2 rfl (by omega) (.slice av acc.length cv) acc.length ((runI acc).map (Value.int .i64)) rfl (by exact row_later hrow.out (bnew _ _)) ⟨wr.heap.size, 0, none⟩ 1 1 [.int .i64 (R : Int)] rfl rfl (by exact World.news_of_block (heap_alloc_new _ _)) (by simp [Value.oneCell']) (by omega) (by simp [maxLen]; omega) (by omega) (by simp; omega) (wr.heap.size + 1) (by simp) ?_; intro g5 cap5 w5 hown5 hgrow5 hat5 hlt5)
        have hB5 : Below w.heap.size w w5 := (bto hbel (bnew _ _)).grown hgrow5 (by simp; omega) (fun q hq => by
          rcases hrow.out.2 with ⟨he, _⟩ | ⟨g, cap, cur, he, hB, _⟩
          · rw [he] at hq; simp [Value.ownBlock] at hq
          · rw [he] at hq; simp [Value.ownBlock] at hq; omega)
        have hxs : (runI acc).map (Value.int .i64) ++ [Value.int .i64 (R : Int)] = (runI (acc ++ [R])).map (Value.int .i64) := by simp [runI_snoc]
        have hle : (acc ++ [R]).length = acc.length + 1 := by simp
        rw [hxs, ← hle] at hown5
        refine ⟨⟨p + N, acc ++ [R], some ⟨g5, 0, none⟩, cap5, by omega, by rw [hle]; omega, ⟨HST.out, fun i hi => ?_⟩, by go_num, by rw [hle], hown5, hB5⟩, by simp [intOf]; omega⟩
        by_cases e : i < acc.length
        · rw [List.getElem_append_left e]; exact HR.out.2 i e
        · rw [List.getElem_append_right (by omega)]; simp; exact hr1
    · have HE : Hid (valV s = endV acc) := HR.out.1.done (by omega)
      by_cases h128 : 128 < acc.length
      · have HE2 : Hid (valV s = 43) := by show _ = _; rw [HE.out, endV, if_pos h128]
        go_wp2
        go_ret
        exact ⟨ret_int (by rw [HE2.out]; rfl), hbel⟩
      · have HE2 : Hid (valV s = if acc.any ctl = true then 44 else 0) := by show _ = _; rw [HE.out, endV, if_neg h128]
        have HN : Hid (NumsIn wr av (runI acc)) := nums_of_row (by rw [runI_len]; exact hrow.out)
        have HA : Hid (∀ i (h : i < acc.length), acc[i] ≤ 1114111) := HR.out.2
        clear hrow HR HE
        go_wp2
        go_loop [8, 35] (fun _ i => ∃ k : Nat, k ≤ acc.length ∧ i = .int .i64 k ∧ Hid ((acc.take k).any ctl = false)) (fun _ i => acc.length - (intOf i).toNat)
        case atStart => exact ⟨0, Nat.zero_le _, rfl, by show _ = _; simp⟩
        case round =>
          obtain ⟨k, hk, rfl, HK⟩ := hrel
          by_cases hlk : k < acc.length
          · obtain ⟨b, o, rfl, hb, c0⟩ := HN.out.at (i := k) (by rw [runI_len]; exact hlk)
            have hr := HA.out k hlk
            have e0 : (runI acc)[k]'(by rw [runI_len]; exact hlk) = ((acc[k] : Nat) : Int) := by simp [runI]
            rw [e0] at c0
            have HYES : Hid (ctl acc[k] = true → valV s = 44) := fun h => by rw [HE2.out, any_split acc k hlk, h]; simp
            have HNO : Hid (ctl acc[k] = false → (acc.take (k + 1)).any ctl = false) := fun h => by rw [List.take_succ_eq_append_getElem hlk, List.any_append, HK.out]; simp [h]
            have HB := ctl_btw acc[k]
            clear e0
            generalize acc[k] = R at *
            by_cases h32 : R < 32
            · have E : Hid (ctl R = true) := by show _ = _; simp [ctl, h32]
              clear HB
              go_wp2
              go_ret
              exact ⟨ret_int (by rw [HYES.out E.out]; rfl), hbel⟩
            · have HBT : Hid (btwB (R : Int) 127 159 = ctl R) := HB h32
              clear HB
              by_cases hc : ctl R = true
              · have HB2 : Hid (btwB (R : Int) 127 159 = true) := HBT.out.trans hc
                have HC : Hid (ctl R = true) := hc
                clear hc
                go_wp2_with fail
                refine (between_any _ _ _ _).mono ?_
                rintro e w1 ⟨rfl, hw⟩
                rw [HB2.out]
                replace hw := hw.symm
                subst hw
                go_wp2
                go_ret
                exact ⟨ret_int (by rw [HYES.out HC.out]; rfl), hbel⟩
              · have HC : Hid (ctl R = false) := by show _ = _; simpa using hc
                have HB2 : Hid (btwB (R : Int) 127 159 = false) := HBT.out.trans HC.out
                clear hc
                go_wp2_with fail
                refine (between_any _ _ _ _).mono ?_
                rintro e w1 ⟨rfl, hw⟩
                rw [HB2.out]
                replace hw := hw.symm
                subst hw
                go_wp2
                exact ⟨⟨k + 1, by omega, by go_num, HNO.out HC.out⟩, by simp [intOf]; omega⟩
          · have HV : Hid (valV s = 0) := by
              show _ = _
              have := HK.out
              rw [List.take_of_length_le (by omega)] at this
              rw [HE2.out, this]; rfl
            go_wp2
            go_ret
            exact ⟨ret_int (by rw [HV.out]; rfl), hbel⟩
end Go.Proofs.YteohobkigjmjlaaDoor
