import Derived.Test.YteohobkigjmjlaaDoorProg
import Derived.Test.YteohobkigjmjlaaDoorIDec
import Derived.Test.YteohobkigjmjlaaDoorSDecK
import Derived.Test.YteohobkigjmjlaaDoorIFault
namespace Go.Proofs.YteohobkigjmjlaaDoor
open Go.RowKit

theorem dec_short' (key : ByteArray) : (decV key).1.length ≤ 16 := by
  cases hd : (decV key).2 with
  | true => exact can_le (dec_key hd).1
  | false => rw [(dec_not hd).1]; simp
set_option maxRecDepth 100000 in
theorem implMet_any (key : ByteArray) (w : World) (hs : key.size ≤ 1000000000) (hT : UTab w) :
    Calls Tryd.prog 20 #[.string key] w fun e w' => e = .returned (.string (metV (decV key).1)) ∧ Below w.heap.size w w' := by
  have hl := dec_short' key
  have HI : Hid (Calls Tryd.prog 18 #[.string key] w fun e w' => ∃ a cap, e = .returned (.tuple #[.slice a (decV key).1.length cap, .bool (decV key).2]) ∧ LabsOwn w' w.heap.size a (decV key).1 ∧ Below w.heap.size w w') := implDec_any key w hs hT
  clear hT
  generalize (decV key).1 = L at *
  generalize (decV key).2 = p at *
  generalize hM : metV L = M
  have EM : Hid (metV L = M) := hM
  clear hM
  go_enter Tryd.func20, Tryd.ntmps20
  go_wp2_with fail
  refine HI.out.mono ?_
  rintro e w1 ⟨a, cap, rfl, hl1, hb1⟩
  have HM : Hid (Calls Tryd.prog 43 #[.slice a L.length cap] w1 fun e w' => e = .returned (.string M) ∧ Below w1.heap.size w1 w') := by
    have := metricOf_any a cap L w1 hl1.labs (by omega)
    rw [EM.out] at this
    exact this
  have B1 : Hid (Below w.heap.size w w1) := hb1
  clear hl1 hb1 HI
  go_wp2_with fail
  refine HM.out.mono ?_
  rintro e w2 ⟨rfl, hb2⟩
  have B2 : Hid (Below w.heap.size w w2) := bto B1.out hb2
  clear hb2
  go_wp2
  go_ret
  exact ⟨rfl, B2.out⟩

set_option maxRecDepth 100000 in
set_option maxHeartbeats 1000000 in
theorem specMet_any (key : ByteArray) (w : World) (hs : key.size ≤ 1000000000) :
    Calls Tryd.prog 19 #[.string key] w fun e w' => e = .returned (.string (metV (decV key).1)) ∧ Below w.heap.size w w' := by
  have hl := dec_short' key
  have HI : Hid (Calls Tryd.prog 17 #[.string key] w fun e w' => ∃ a cap, e = .returned (.tuple #[.slice a (decV key).1.length cap, .bool (decV key).2]) ∧ LabsOwn w' w.heap.size a (decV key).1 ∧ Below w.heap.size w w') := specDec_any key w hs
  generalize (decV key).1 = ls at *
  generalize (decV key).2 = p at *
  go_enter Tryd.func19, Tryd.ntmps19
  go_wp2_with fail
  refine HI.out.mono ?_
  rintro e w1 ⟨a, cap, rfl, hl1, hb1⟩
  have HF : Hid (LabsIn w1 a ls) := hl1.labs
  have B1 : Hid (Below w.heap.size w w1) := hb1
  clear hl1 hb1 HI
  go_wp2
  go_loopw [6, 14] (fun _ i wr => ∃ k : Nat, k ≤ ls.length ∧ i = .int .i64 k ∧ Hid (metV ls = metV (ls.drop k)) ∧ Below w1.heap.size w1 wr) (fun _ i _ => ls.length - (intOf i).toNat)
  case atStart => exact ⟨0, Nat.zero_le _, rfl, rfl, Below.refl _ _⟩
  case round =>
    obtain ⟨k, hk, rfl, HK, hbel⟩ := hrel
    by_cases hlt : k < ls.length
    · obtain ⟨b, o, rfl, hb, c0, c1⟩ := (HF.out.later hbel).at hlt
      have HS := metV_step ls k hlt
      have HM : Hid (isMet ls[k] = (ls[k].name.toList == [95, 95, 110, 97, 109, 101, 95, 95])) := by show _ = _; rw [isMet, mname_list]
      generalize ls[k].name = nm at *
      by_cases hm : isMet ls[k] = true
      · have hmb : (nm.toList == [95, 95, 110, 97, 109, 101, 95, 95]) = true := by rw [← HM.out]; exact hm
        have E : Hid (metV ls = ls[k].value) := by show _ = _; rw [HK.out, HS, if_pos hm]
        clear HS hm
        generalize ls[k].value = va at *
        go_wp2
        go_ret
        exact ⟨by rw [E.out]; rfl, bto B1.out (bto hbel (bnew _ _))⟩
      · have hmb : (nm.toList == [95, 95, 110, 97, 109, 101, 95, 95]) = false := by rw [← HM.out]; simpa using hm
        have E : Hid (metV ls = metV (ls.drop (k + 1))) := by show _ = _; rw [HK.out, HS, if_neg hm]
        clear HS hm
        generalize ls[k].value = va at *
        go_wp2
        exact ⟨⟨k + 1, by omega, by go_num, E.out, bto hbel (bnew _ _)⟩, by simp [intOf]; omega⟩
    · have E : Hid (metV ls = ByteArray.empty) := by
        show _ = _
        rw [HK.out, List.drop_of_length_le (by omega)]; rfl
      go_wp2
      go_ret
      exact ⟨by rw [E.out]; rfl, bto B1.out hbel⟩

end Go.Proofs.YteohobkigjmjlaaDoor
