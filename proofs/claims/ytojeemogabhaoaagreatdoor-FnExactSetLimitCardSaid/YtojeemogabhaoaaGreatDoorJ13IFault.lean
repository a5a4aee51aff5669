import Derived.Test.YtojeemogabhaoaaGreatDoorProg
import Derived.Test.YtojeemogabhaoaaGreatDoorJ12SName
import Derived.WalkMore
import Derived.Test.YtojeemogabhaoaaGreatDoorJ08IValC
import Derived.Test.YtojeemogabhaoaaGreatDoorJ04SNum
import Derived.Shelf.SlicesQ.IndexFunc
namespace Go.Proofs.YtojeemogabhaoaaGreatDoor
open Go.RowKit
set_option maxRecDepth 100000 in
set_option maxHeartbeats 2000000 in
theorem implName_any (s : ByteArray) (w : World) (hs : s.size ≤ maxLen) :
    Calls Tryz.prog 165 #[.string s] w fun e w' => e = .returned (.bool (nameB s)) ∧ w' = w := by
  unfold maxLen at hs
  by_cases h1 : 1 ≤ s.size ∧ s.size ≤ 64
  · have h0 : ¬ ((s.size : Int) < 1) := by omega
    have h64 : ¬ ((64 : Int) < s.size) := by omega
    go_enter Tryz.func165, Tryz.ntmps165
    go_wp2
    apply wp_scope_straight
    go_wp2
    apply wp_label
    go_wp2
    go_loop [3, 4, 20, 35] (fun i _ _ _ => ∃ j : Nat, j ≤ s.size ∧ i = .int .i64 j ∧ Hid (∀ k, k < j → nameC s k)) (fun i _ _ _ => s.size - (intOf i).toNat)
    case atStart => exact ⟨0, Nat.zero_le _, rfl, fun k hk => absurd hk (by omega)⟩
    case round =>
      obtain ⟨j, hj, rfl, HA⟩ := hrel
      by_cases hlt : j < s.size
      · have hU2 : s[j].toNat < 256 := s[j].toNat_lt
        have HE : Hid (s[j].toNat = byteAt s j) := byteAt_eq s j hlt
        have hje : ((j : Int) == (s.size : Int)) = false := by simp; omega
        by_cases hc : s[j].toNat = 95
        · have hcb : ((s[j].toNat : Int) == 95) = true := by simp; omega
          go_wp2
          all_goals
            refine ⟨⟨j + 1, by omega, by go_num, ?_⟩, by simp [intOf]; omega⟩
            show ∀ k, _
            intro k hk
            by_cases e : k = j
            · subst e; unfold nameC alphaN; rw [← HE.out]; omega
            · exact HA.out k (by omega)
        · have hcb : ((s[j].toNat : Int) == 95) = false := by simp; omega
          go_wp2
          all_goals first
            | (go_ret
               refine ⟨ret_bool (nameB_not ?_).symm, rfl⟩
               intro h
               have := h.2.2 j hlt
               unfold nameC alphaN digitN at this
               rw [← HE.out] at this
               omega)
            | (refine ⟨⟨j + 1, by omega, by go_num, ?_⟩, by simp [intOf]; omega⟩
               show ∀ k, _
               intro k hk
               by_cases e : k = j
               · subst e
                 unfold nameC alphaN digitN
                 rw [← HE.out]
                 omega
               · exact HA.out k (by omega))
      · have hje : ((j : Int) == (s.size : Int)) = true := by simp; omega
        go_wp2
        go_ret
        exact ⟨ret_bool (nameB_yes ⟨by omega, by omega, fun i hi => HA.out i (by omega)⟩).symm, rfl⟩
  · have E : Hid (nameB s = false) := nameB_not (fun h => h1 ⟨h.1, h.2.1⟩)
    by_cases h2 : (s.size : Int) < 1
    · clear h1
      go_enter Tryz.func165, Tryz.ntmps165
      go_wp2
      apply wp_scope_straight
      go_wp2
      rw [Exit.noGoto_ret]
      show bodyPost Tryz.prog Tryz.f165 _ Exit.ret _ _
      go_ret
      exact ⟨ret_bool E.out.symm, rfl⟩
    · have h3 : (64 : Int) < s.size := by omega
      clear h1
      go_enter Tryz.func165, Tryz.ntmps165
      go_wp2
      apply wp_scope_straight
      go_wp2
      rw [Exit.noGoto_ret]
      show bodyPost Tryz.prog Tryz.f165 _ Exit.ret _ _
      go_ret
      exact ⟨ret_bool E.out.symm, rfl⟩
end Go.Proofs.YtojeemogabhaoaaGreatDoor
namespace Go.Proofs.YtojeemogabhaoaaGreatDoor
open Go.RowKit
abbrev labI : Inhabited LabD := ⟨⟨ByteArray.empty, ByteArray.empty⟩⟩
def encL (x : LabD) : List Value := [.string x.name, .string x.value]
set_option maxRecDepth 100000 in
set_option maxHeartbeats 1000000 in
theorem labelCode_any (l : LabD) (w : World) (hn : l.name.size ≤ 1000000000) (hv : l.value.size ≤ 1000000000) (hT : UTab w) :
    Calls Tryz.prog 162 #[.agg #[.string l.name, .string l.value]] w fun e w' => e = .returned (.int .i64 (labV l : Nat)) ∧ Below w.heap.size w w' := by
  have HT : Hid (UTab w) := hT
  have HN : Hid (∀ W, Calls Tryz.prog 165 #[.string l.name] W fun e w' => e = .returned (.bool (nameB l.name)) ∧ w' = W) := fun W => implName_any l.name W (by unfold maxLen; omega)
  have HV : Hid (∀ W, UTab W → Calls Tryz.prog 95 #[.string l.value] W fun e w' => e = .returned (.int .i64 (valV l.value : Nat)) ∧ Below W.heap.size W w') := fun W h => implVal_any l.value W hv h
  clear hT hn hv
  by_cases h : nameB l.name = true
  · have E : Hid (labV l = valV l.value) := by show _ = _; rw [labV, if_pos h]
    rw [E.out]
    have HH : Hid (nameB l.name = true) := h
    clear h E
    generalize l.name = nm at *
    generalize l.value = va at *
    generalize valV va = V at *
    go_enter Tryz.func162, Tryz.ntmps162
    go_wp2_with fail
    refine (HN.out _).mono ?_
    rintro e w1 ⟨rfl, hw⟩
    rw [HH.out]
    replace hw := hw.symm
    subst hw
    go_wp2_with fail
    refine (HV.out _ (HT.out.later (bnew _ _))).mono ?_
    rintro e w2 ⟨rfl, hb⟩
    have HB : Hid (Below w.heap.size w w2) := bto (bnew _ _) hb
    clear hb
    go_wp2
    go_ret
    exact ⟨rfl, HB.out⟩
  · have HH : Hid (nameB l.name = false) := by show _ = _; simpa using h
    have E : Hid (labV l = 41) := by show _ = _; rw [labV, if_neg h]
    rw [E.out]
    clear h E
    generalize l.name = nm at *
    generalize l.value = va at *
    go_enter Tryz.func162, Tryz.ntmps162
    go_wp2_with fail
    refine (HN.out _).mono ?_
    rintro e w1 ⟨rfl, hw⟩
    rw [HH.out]
    replace hw := hw.symm
    subst hw
    go_wp2
    go_ret
    exact ⟨rfl, bnew _ _⟩
theorem hasFn_any (t : ByteArray) (B : Nat) (w : World) (hB : B < w.heap.size) (hcell : w.cell? ⟨B, 0, none⟩ = some (.string t)) :
    PredBelow Tryz.prog 167 #[.pointer (some ⟨B, 0, none⟩)] (fun x => .agg (encL x).toArray) (fun x : LabD => x.name.toList == t.toList) w := fun W x hb => by
  have hc : W.cell? ⟨B, 0, none⟩ = some (.string t) := (hb.cell (p := ⟨B, 0, none⟩) hB).trans hcell
  have hBW : B < W.heap.size := Nat.lt_of_lt_of_le hB hb.size
  have hne : B ≠ W.heap.size := by omega
  show Calls Tryz.prog 167 #[.agg #[.string x.name, .string x.value], .pointer (some ⟨B, 0, none⟩)] W _
  go_enter Tryz.func167, Tryz.ntmps167
  go_wp2
  go_ret
  exact ⟨rfl, hb.alloc hb.size _⟩
set_option maxRecDepth 100000 in
set_option maxHeartbeats 1000000 in
theorem hasName_any (b o n c : Nat) (ls : List LabD) (t : ByteArray) (w : World) (hb : b < w.heap.size) (hl : LabsAt w b o ls) (hn : n ≤ ls.length) (hlen : ls.length ≤ 2000000) :
    Calls Tryz.prog 163 #[.slice (some ⟨b, o, none⟩) n c, .string t] w fun e w' => e = .returned (.bool ((ls.take n).any fun x => x.name.toList == t.toList)) ∧ Below w.heap.size w w' := by
  have eg : ∀ args w, (callFunc 167 args).run Tryz.prog w = .ok (.enter 167 args) w := enters_of Tryz.func167 (by kernel_rfl) rfl
  haveI := labI
  have hcon := AnyQ.slices_ContainsFunc Tryz.contL 2 Tryz.isAgg135 Tryz.sizeOf135 encL (fun _ => rfl) (fun x : LabD => x.name.toList == t.toList) 167 #[.pointer (some ⟨w.heap.size, 0, none⟩)] eg b o n c ls (w.alloc (.cells #[.string t] 9))
    (hasFn_any t w.heap.size _ (by simp) (by simp)) hn (by omega) (by simp; omega) (fun j hj i v hi => by
      refine Lib.cell?_alloc_some _ ?_
      have h1 := hl j hj
      have e : ls[j]! = ls[j] := getElem!_pos ls j hj
      rw [e] at hi
      match i, hi with
      | 0, hi => simp [encL] at hi; rw [← hi]; exact h1.1
      | 1, hi => simp [encL] at hi; rw [← hi]; exact h1.2
      | i + 2, hi => simp [encL] at hi)
  change Calls Tryz.prog 166 _ _ _ at hcon
  clear hl
  generalize ((ls.take n).any fun x => x.name.toList == t.toList) = r at hcon ⊢
  go_enter Tryz.func163, Tryz.ntmps163
  go_wp2_with (go_at_call 166; refine hcon.mono ?_; rintro e w' ⟨rfl, hb'⟩)
  go_ret
  exact ⟨rfl, ((Below.refl _ w).alloc (Nat.le_refl _) _).trans (hb'.mono (by simp))⟩
theorem mname_list : mname.toList = [95, 95, 110, 97, 109, 101, 95, 95] := by rw [mname, ByteArray.toList_eq]
set_option maxRecDepth 100000 in
set_option maxHeartbeats 1000000 in
theorem metricOf_any (a : Option Addr) (cap : Nat) (ls : List LabD) (w : World) (hf : LabsIn w a ls) (hlen : ls.length ≤ 2000000) :
    Calls Tryz.prog 125 #[.slice a ls.length cap] w fun e w' => e = .returned (.string (metV ls)) ∧ Below w.heap.size w w' := by
  have HF : Hid (LabsIn w a ls) := hf
  clear hf
  go_enter Tryz.func125, Tryz.ntmps125
  go_wp2
  go_loopw [4, 7] (fun _ i wr => ∃ k : Nat, k ≤ ls.length ∧ i = .int .i64 k ∧ Hid (metV ls = metV (ls.drop k)) ∧ Below w.heap.size w wr) (fun _ i _ => ls.length - (intOf i).toNat)
  case atStart => exact ⟨0, Nat.zero_le _, rfl, rfl, Below.refl _ _⟩
  case round =>
    obtain ⟨k, hk, rfl, HK, hbel⟩ := hrel
    by_cases hlt : k < ls.length
    · obtain ⟨b, o, rfl, hb, c0, c1⟩ := (HF.out.later hbel).at hlt
      have HS := metV_step ls k hlt
      have HM : Hid (isMet ls[k] = (ls[k].name.toList == [95, 95, 110, 97, 109, 101, 95, 95])) := by show _ = _; rw [isMet, mname_list]
      generalize ls[k].name = nm at *
      by_cases hm : isMet ls[k] = true
      · have hmb : (nm.toList == [95, 95, 110, 97, 109, 101, 95, 95]) = true := by rw [← HM.out]; exact hm
        have E : Hid (metV ls = ls[k].value) := by show _ = _; rw [HK.out, HS, if_pos hm]
        clear HS hm
        generalize ls[k].value = va at *
        go_wp2
        go_ret
        exact ⟨by rw [E.out]; rfl, bto hbel (bnew _ _)⟩
      · have hmb : (nm.toList == [95, 95, 110, 97, 109, 101, 95, 95]) = false := by rw [← HM.out]; simpa using hm
        have E : Hid (metV ls = metV (ls.drop (k + 1))) := by show _ = _; rw [HK.out, HS, if_neg hm]
        clear HS hm
        generalize ls[k].value = va at *
        go_wp2
        exact ⟨⟨k + 1, by omega, by go_num, E.out, bto hbel (bnew _ _)⟩, by simp [intOf]; omega⟩
    · have E : Hid (metV ls = ByteArray.empty) := by
        show _ = _
        rw [HK.out, List.drop_of_length_le (by omega)]; rfl
      go_wp2
      go_ret
      exact ⟨by rw [E.out]; rfl, hbel⟩
end Go.Proofs.YtojeemogabhaoaaGreatDoor
