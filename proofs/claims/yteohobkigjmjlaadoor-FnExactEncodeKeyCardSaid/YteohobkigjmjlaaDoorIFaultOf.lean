import Derived.Test.YteohobkigjmjlaaDoorProg
import Derived.Test.YteohobkigjmjlaaDoorIFault
namespace Go.Proofs.YteohobkigjmjlaaDoor
open Go.RowKit

def BigL (ls : List LabD) : Prop := ∀ i (h : i < ls.length), ls[i].name.size ≤ 1000000000 ∧ ls[i].value.size ≤ 1000000000
def faultR (ls : List LabD) : Nat × Nat :=
  if 16 < ls.length then (40, 0) else match firstBad ls 0 with
  | some (c, i) => (c, i)
  | none => match firstTw [] ls 0 with
    | some i => (45, i)
    | none => if ((metV ls).toList == ByteArray.empty.toList) = true then (46, 0) else (0, 0)
theorem ret_2 {a b c d : Nat} (h1 : a = c) (h2 : b = d) : Ending.returned (.tuple #[.int .i64 (a : Nat), .int .i64 (b : Nat)]) = .returned (.tuple #[.int .i64 (c : Nat), .int .i64 (d : Nat)]) := by rw [h1, h2]
theorem fault_many {ls : List LabD} (h : 16 < ls.length) : faultR ls = (40, 0) := by unfold faultR; rw [if_pos h]
theorem fault_bad {ls : List LabD} (h : ¬ 16 < ls.length) {c i : Nat} (hb : firstBad ls 0 = some (c, i)) : faultR ls = (c, i) := by unfold faultR; rw [if_neg h, hb]
theorem fault_twice {ls : List LabD} (h : ¬ 16 < ls.length) (hb : firstBad ls 0 = none) {i : Nat} (ht : firstTw [] ls 0 = some i) : faultR ls = (45, i) := by unfold faultR; rw [if_neg h, hb, ht]
theorem fault_end {ls : List LabD} (h : ¬ 16 < ls.length) (hb : firstBad ls 0 = none) (ht : firstTw [] ls 0 = none) : faultR ls = if ((metV ls).toList == ByteArray.empty.toList) = true then (46, 0) else (0, 0) := by unfold faultR; rw [if_neg h, hb, ht]

set_option maxRecDepth 100000 in
set_option maxHeartbeats 2000000 in
theorem faultOf_any (a : Option Addr) (cap : Nat) (ls : List LabD) (w : World) (hf : LabsIn w a ls) (hB : BigL ls) (hlen : ls.length ≤ 2000000) (hcap : ls.length ≤ cap) (hT : UTab w) :
    Calls Tryd.prog 28 #[.slice a ls.length cap] w fun e w' => e = .returned (.tuple #[.int .i64 ((faultR ls).1 : Nat), .int .i64 ((faultR ls).2 : Nat)]) ∧ Below w.heap.size w w' := by
  have HF : Hid (LabsIn w a ls) := hf
  have HB : Hid (BigL ls) := hB
  have HT : Hid (UTab w) := hT
  clear hf hB hT
  by_cases h16 : 16 < ls.length
  · rw [fault_many h16]
    go_enter Tryd.func28, Tryd.ntmps28
    go_wp2
    go_ret2
    exact ⟨rfl, Below.refl _ _⟩
  have H16 : Hid (¬ 16 < ls.length) := h16
  go_enter Tryd.func28, Tryd.ntmps28
  go_wp2
  go_loopw [4, 5, 6, 14] (fun _ _ _ i wr => ∃ k : Nat, k ≤ ls.length ∧ i = .int .i64 k ∧ Hid (firstBad ls 0 = firstBad (ls.drop k) k) ∧ Below w.heap.size w wr) (fun _ _ _ i _ => ls.length - (intOf i).toNat)
  case atStart => exact ⟨0, Nat.zero_le _, rfl, rfl, Below.refl _ _⟩
  case round =>
    obtain ⟨k, hk, rfl, HK, hbel⟩ := hrel
    by_cases hlt : k < ls.length
    · obtain ⟨b, o, rfl, hb, c0, c1⟩ := (HF.out.later hbel).at hlt
      obtain ⟨hs1, hs2⟩ := HB.out k hlt
      have HLC : Hid (∀ W, UTab W → Calls Tryd.prog 49 #[.agg #[.string ls[k].name, .string ls[k].value]] W fun e w' => e = .returned (.int .i64 (labV ls[k] : Nat)) ∧ Below W.heap.size W w') := fun W h => labelCode_any ls[k] W hs1 hs2 h
      have HS := firstBad_step ls k hlt
      have hnb : ¬ b = wr.heap.size := by omega
      by_cases h0 : labV ls[k] = 0
      · have E : Hid (firstBad ls 0 = firstBad (ls.drop (k + 1)) (k + 1)) := by show _ = _; rw [HK.out, HS, if_pos h0]
        have HLC2 : Hid (∀ W, UTab W → Calls Tryd.prog 49 #[.agg #[.string ls[k].name, .string ls[k].value]] W fun e w' => e = .returned (.int .i64 0) ∧ Below W.heap.size W w') := by
          show ∀ _, _
          have := HLC.out
          rw [h0] at this
          exact this
        clear HS HLC h0 hs1 hs2
        generalize ls[k].name = nm at *
        generalize ls[k].value = va at *
        go_wp2_with fail
        refine (HLC2.out _ ((HT.out.later hbel).later (bnew _ _))).mono ?_
        rintro e w1 ⟨rfl, hb1⟩
        have HB1 : Hid (Below w.heap.size w w1) := bto (bto hbel (bnew _ _)) hb1
        clear hb1
        go_wp2
        exact ⟨⟨k + 1, by omega, by go_num, E.out, HB1.out⟩, by simp [intOf]; omega⟩
      · have E : Hid (faultR ls = (labV ls[k], k)) := fault_bad H16.out (by rw [HK.out, HS, if_neg h0])
        have h0b : ((labV ls[k] : Int) != 0) = true := by simp; omega
        clear HS h0 hs1 hs2
        generalize labV ls[k] = V at *
        generalize ls[k].name = nm at *
        generalize ls[k].value = va at *
        go_wp2_with fail
        refine (HLC.out _ ((HT.out.later hbel).later (bnew _ _))).mono ?_
        rintro e w1 ⟨rfl, hb1⟩
        have HB1 : Hid (Below w.heap.size w w1) := bto (bto hbel (bnew _ _)) hb1
        clear hb1
        go_wp2
        go_ret2
        exact ⟨ret_2 (by rw [E.out]) (by rw [E.out]), HB1.out⟩
    · have HN : Hid (firstBad ls 0 = none) := by
        show _ = _
        rw [HK.out, List.drop_of_length_le (by omega)]; rfl
      clear HK
      go_wp2
      clear hlt hk
      go_loopw [7, 8, 28] (fun _ _ i wr => ∃ k : Nat, k ≤ ls.length ∧ i = .int .i64 k ∧ Hid (firstTw [] ls 0 = firstTw (ls.take k) (ls.drop k) k) ∧ Below w.heap.size w wr) (fun _ _ i _ => ls.length - (intOf i).toNat)
      case atStart => exact ⟨0, Nat.zero_le _, rfl, rfl, hbel⟩
      case round =>
        clear hbel
        obtain ⟨k, hk, rfl, HK, hbel⟩ := hrel
        by_cases hlt : k < ls.length
        · obtain ⟨b, o, rfl, hb, c0, c1⟩ := (HF.out.later hbel).at hlt
          have HS := firstTw_step ls k hlt
          have hnb : ¬ b = wr.heap.size := by omega
          have hat : LabsAt wr b o ls := by
            rcases HF.out.later hbel with h | ⟨b', o', e, _, h⟩
            · rw [h] at hlt; exact absurd hlt (by simp)
            · simp only [Option.some.injEq, Addr.mk.injEq, and_true] at e
              obtain ⟨rfl, rfl⟩ := e
              exact h
          have HHN : Hid (∀ W, Below wr.heap.size wr W → Calls Tryd.prog 50 #[.slice (some ⟨b, o, none⟩) k cap, .string ls[k].name] W fun e w' => e = .returned (.bool ((ls.take k).any fun x => sameN x ls[k])) ∧ Below W.heap.size W w') := fun W hW => by
            have h2 : LabsAt W b o ls := fun i hi => by
              have := hat i hi
              exact ⟨(hW.cell hb).trans this.1, (hW.cell hb).trans this.2⟩
            exact hasName_any b o k cap ls ls[k].name W (Nat.lt_of_lt_of_le hb hW.size) h2 (by omega) hlen
          have hk0 : (0 : Int) ≤ (k : Int) := by omega
          have hkc : (k : Int) ≤ (cap : Int) := by omega
          clear hat
          by_cases ht : ((ls.take k).any fun x => sameN x ls[k]) = true
          · have E : Hid (faultR ls = (45, k)) := fault_twice H16.out HN.out (by rw [HK.out, HS, if_pos ht])
            have HHN2 : Hid (∀ W, Below wr.heap.size wr W → Calls Tryd.prog 50 #[.slice (some ⟨b, o, none⟩) k cap, .string ls[k].name] W fun e w' => e = .returned (.bool true) ∧ Below W.heap.size W w') := by
              show ∀ _, _
              have := HHN.out
              rw [ht] at this
              exact this
            clear HS HHN ht
            generalize ls[k].name = nm at *
            generalize ls[k].value = va at *
            have d0 : ∀ x : Later (wr.alloc (.cells #[.string nm, .string va] 40)), x.w'.cell? ⟨wr.heap.size, 0, none⟩ = some (.string nm) := Later.cells (by simp)
            have hne := Later.there (wr.alloc (.cells #[.string nm, .string va] 40))
            go_wp2_with fail
            refine wp_region_later (by kernel_rfl) (by kernel_rfl) ?_
            repeat (go_big_quiet_step (first | (go_at_call 50; exact calls_later (HHN2.out _ (bto (bnew _ _) (Later.h _))))))
            refine wpQuiet_nil ?_
            rintro _ ⟨x, rfl⟩
            have HX : Hid (Below w.heap.size w x.w') := bto (bto hbel (bnew _ _)) x.h
            clear d0 hne
            generalize x.w' = W at *
            clear x
            go_wp2
            go_ret2
            exact ⟨ret_2 (by rw [E.out]) (by rw [E.out]), HX.out⟩
          · have E : Hid (firstTw [] ls 0 = firstTw (ls.take (k + 1)) (ls.drop (k + 1)) (k + 1)) := by show _ = _; rw [HK.out, HS, if_neg ht]
            have HHN2 : Hid (∀ W, Below wr.heap.size wr W → Calls Tryd.prog 50 #[.slice (some ⟨b, o, none⟩) k cap, .string ls[k].name] W fun e w' => e = .returned (.bool false) ∧ Below W.heap.size W w') := by
              show ∀ _, _
              have h1 : ((ls.take k).any fun x => sameN x ls[k]) = false := by simpa using ht
              have := HHN.out
              rw [h1] at this
              exact this
            clear HS HHN ht
            generalize ls[k].name = nm at *
            generalize ls[k].value = va at *
            have d0 : ∀ x : Later (wr.alloc (.cells #[.string nm, .string va] 40)), x.w'.cell? ⟨wr.heap.size, 0, none⟩ = some (.string nm) := Later.cells (by simp)
            have hne := Later.there (wr.alloc (.cells #[.string nm, .string va] 40))
            go_wp2_with fail
            refine wp_region_later (by kernel_rfl) (by kernel_rfl) ?_
            repeat (go_big_quiet_step (first | (go_at_call 50; exact calls_later (HHN2.out _ (bto (bnew _ _) (Later.h _))))))
            refine wpQuiet_nil ?_
            rintro _ ⟨x, rfl⟩
            have HX : Hid (Below w.heap.size w x.w') := bto (bto hbel (bnew _ _)) x.h
            clear d0 hne
            generalize x.w' = W at *
            clear x
            go_wp2
            exact ⟨⟨k + 1, by omega, by go_num, E.out, HX.out⟩, by simp [intOf]; omega⟩
        · have HN2 : Hid (firstTw [] ls 0 = none) := by
            show _ = _
            rw [HK.out, List.drop_of_length_le (by omega)]; rfl
          have HM : Hid (Calls Tryd.prog 43 #[.slice a ls.length cap] wr fun e w' => e = .returned (.string (metV ls)) ∧ Below wr.heap.size wr w') := metricOf_any a cap ls wr (HF.out.later hbel) hlen
          have E := fault_end H16.out HN.out HN2.out
          have HEM : Hid (ByteArray.empty.toList = []) := by show _ = _; rw [ByteArray.toList_eq]; rfl
          generalize metV ls = M at *
          by_cases hm : (M.toList == ByteArray.empty.toList) = true
          · have E2 : Hid (faultR ls = (46, 0)) := by show _ = _; rw [E, if_pos hm]
            have hmb : M.toList.isEmpty = true := by rw [HEM.out] at hm; simpa using hm
            clear hm E
            go_wp2_with fail
            refine HM.out.mono ?_
            rintro e w1 ⟨rfl, hb1⟩
            have HB1 : Hid (Below w.heap.size w w1) := bto hbel hb1
            clear hb1
            go_wp2
            go_ret2
            exact ⟨ret_2 (by rw [E2.out]) (by rw [E2.out]), HB1.out⟩
          · have E2 : Hid (faultR ls = (0, 0)) := by show _ = _; rw [E, if_neg hm]
            have hmb : M.toList.isEmpty = false := by rw [HEM.out] at hm; simpa using hm
            clear hm E
            go_wp2_with fail
            refine HM.out.mono ?_
            rintro e w1 ⟨rfl, hb1⟩
            have HB1 : Hid (Below w.heap.size w w1) := bto hbel hb1
            clear hb1
            go_wp2
            go_ret2
            exact ⟨ret_2 (by rw [E2.out]) (by rw [E2.out]), HB1.out⟩
end Go.Proofs.YteohobkigjmjlaaDoor
