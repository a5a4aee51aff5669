import Derived.Test.YtojeemogabhaoaaGreatDoorProg
import Derived.Test.YtojeemogabhaoaaGreatDoorJ05Cfg
import Derived.Test.YtojeemogabhaoaaGreatDoorJ07Shelf
import Derived.Test.YtojeemogabhaoaaGreatDoorJ04SNum
import Derived.Test.YtojeemogabhaoaaGreatDoorJ01BlkN
import Derived.Shelf.Unicode.DecodeAny
import Derived.Laws.RangeAny
namespace Go.Proofs.YtojeemogabhaoaaGreatDoor
open Go.RowKit
def okM (marks : List UInt8) (c : UInt8) : Bool := (97 ≤ c && c ≤ 122) || (48 ≤ c && c ≤ 57) || decide (0 ≤ Lib.indexByte marks c)
def plainB (s : ByteArray) (most : Int) (marks : ByteArray) : Bool := decide (1 ≤ s.size) && decide ((s.size : Int) ≤ most) && s.data.toList.all (okM marks.data.toList)
theorem index_any (mk : ByteArray) (c : UInt8) (w : World) : Calls Tryz.prog 94 #[.string mk, .int .u8 (c.toNat : Int)] w fun e w' => e = .returned (.int .i64 (Lib.indexByte mk.data.toList c)) ∧ w' = w := by
  have := Tryz.strings_IndexByte mk (c.toNat : Int) w
  simpa using this
theorem all_take_succ {s : ByteArray} {f : UInt8 → Bool} {k : Nat} (h : k < s.size) : (s.data.toList.take (k + 1)).all f = ((s.data.toList.take k).all f && f s[k]) := by
  rw [take_snoc s k h]; simp
theorem all_not {l : List UInt8} {f : UInt8 → Bool} {k : Nat} (h : (l.take k).all f = false) : l.all f = false := by
  rw [Bool.eq_false_iff] at h ⊢
  intro h'
  apply h
  simp only [List.all_eq_true] at h' ⊢
  exact fun x hx => h' x (List.mem_of_mem_take hx)
theorem letter_eq (c : UInt8) : (97 ≤ c && c ≤ 122) = decide (97 ≤ (c.toNat : Int) ∧ (c.toNat : Int) ≤ 122) := by rw [Bool.eq_iff_iff]; simp [UInt8.le_iff_toNat_le]; omega
theorem digit_eq (c : UInt8) : (48 ≤ c && c ≤ 57) = decide (48 ≤ (c.toNat : Int) ∧ (c.toNat : Int) ≤ 57) := by rw [Bool.eq_iff_iff]; simp [UInt8.le_iff_toNat_le]; omega
set_option maxRecDepth 100000 in
set_option maxHeartbeats 2000000 in
theorem isPlain_any (s : ByteArray) (most : Int) (mk : ByteArray) (w : World) (hs : s.size ≤ maxLen) :
    Calls Tryz.prog 63 #[.string s, .int .i64 most, .string mk] w fun e w' => e = .returned (.bool (plainB s most mk)) ∧ w' = w := by
  unfold maxLen at hs
  by_cases h0 : (s.size : Int) < 1
  · have HN : Hid (plainB s most mk = false) := by show _ = _; simp [plainB]; omega
    go_enter Tryz.func63, Tryz.ntmps63
    go_wp2
    go_ret
    exact ⟨ret_bool HN.out.symm, rfl⟩
  by_cases h1 : most < (s.size : Int)
  · have HN : Hid (plainB s most mk = false) := by
      show _ = _
      have : decide ((s.size : Int) ≤ most) = false := by simp; omega
      simp [plainB, this]
    go_enter Tryz.func63, Tryz.ntmps63
    go_wp2
    go_ret
    exact ⟨ret_bool HN.out.symm, rfl⟩
  have HN : Hid (plainB s most mk = s.data.toList.all (okM mk.data.toList)) := by
    show _ = _
    have e1 : 1 ≤ s.size := by omega
    have e2 : (s.size : Int) ≤ most := by omega
    simp [plainB, e1, e2]
  go_enter Tryz.func63, Tryz.ntmps63
  go_wp2
  go_loop [7, 8, 20] (fun _ _ i => ∃ k : Nat, k ≤ s.size ∧ i = .int .i64 k ∧ (s.data.toList.take k).all (okM mk.data.toList) = true) (fun _ _ i => s.size - (intOf i).toNat)
  case atStart => exact ⟨0, Nat.zero_le _, rfl, by simp⟩
  case round =>
    obtain ⟨k, hk, rfl, hok⟩ := hrel
    have HOK : Hid ((s.data.toList.take k).all (okM mk.data.toList) = true) := hok
    clear hok
    by_cases hlt : k < s.size
    · have hsn := all_take_succ (f := okM mk.data.toList) hlt
      rw [HOK.out, Bool.true_and, okM, letter_eq, digit_eq] at hsn
      have HS : Hid ((s.data.toList.take (k + 1)).all (okM mk.data.toList) = (decide (97 ≤ (s[k].toNat : Int) ∧ (s[k].toNat : Int) ≤ 122) || decide (48 ≤ (s[k].toNat : Int) ∧ (s[k].toNat : Int) ≤ 57) || decide (0 ≤ Lib.indexByte mk.data.toList s[k]))) := hsn
      clear hsn
      have HX := fun W => index_any mk s[k] W
      generalize Lib.indexByte mk.data.toList s[k] = ix at *
      have HXX : Hid (∀ W, Calls Tryz.prog 94 #[.string mk, .int .u8 (s[k].toNat : Int)] W fun e w' => e = .returned (.int .i64 ix) ∧ w' = W) := HX
      clear HX
      go_wp2_with (go_at_call 94; refine (HXX.out _).mono ?_; rintro e w' ⟨rfl, rfl⟩)
      all_goals first
        | (go_ret
           refine ⟨ret_bool ?_, rfl⟩
           rw [HN.out]
           refine (all_not (k := k + 1) ?_).symm
           rw [HS.out]
           simp at *
           omega)
        | (refine ⟨⟨k + 1, by omega, by go_num, ?_⟩, by simp [intOf]; omega⟩
           rw [HS.out]
           simp at *
           omega)
    · go_wp2
      go_ret
      exact ⟨ret_bool (by rw [HN.out, ← HOK.out, List.take_of_length_le (by simp; omega)]), rfl⟩
end Go.Proofs.YtojeemogabhaoaaGreatDoor
namespace Go.Proofs.YtojeemogabhaoaaGreatDoor
open Go.RowKit
theorem isControl_any (r : Nat) (w : World) (hr : r ≤ 1114111) : Calls Tryz.prog 118 #[.int .i32 (r : Nat)] w fun e w' => e = .returned (.bool (ctl r)) ∧ w' = w := by
  by_cases h1 : r < 32
  · have E : Hid (ctl r = true) := by show _ = _; simp [ctl, h1]
    go_enter Tryz.func118, Tryz.ntmps118
    go_wp2
    go_ret
    exact ⟨ret_bool (by rw [E.out]), rfl⟩
  by_cases h2 : 127 ≤ r
  · by_cases h3 : r ≤ 159
    · have E : Hid (ctl r = true) := by show _ = _; simp [ctl, h2, h3]
      go_enter Tryz.func118, Tryz.ntmps118
      go_wp2
      go_ret
      exact ⟨ret_bool (by rw [E.out]; simp; omega), rfl⟩
    · have E : Hid (ctl r = false) := by show _ = _; simp [ctl, h1, h3]
      go_enter Tryz.func118, Tryz.ntmps118
      go_wp2
      go_ret
      exact ⟨ret_bool (by rw [E.out]; simp; omega), rfl⟩
  · have E : Hid (ctl r = false) := by show _ = _; simp [ctl, h1, h2]
    go_enter Tryz.func118, Tryz.ntmps118
    go_wp2
    go_ret
    exact ⟨ret_bool (by rw [E.out]; simp; omega), rfl⟩
abbrev UTab (w : World) : Prop := Lib.Utf8Tabs 1 2 w
theorem UTab.later {w w' : World} (h : UTab w) (hb : Below w.heap.size w w') : UTab w' := Utf8Tabs_below h hb
set_option maxRecDepth 100000 in
theorem widthAt_any (s : ByteArray) (p : Nat) (w : World) (hp : p < s.size) (hT : UTab w) :
    Calls Tryz.prog 117 #[.string s, .int .i64 (p : Nat)] w fun e w' => e = .returned (.int .i64 ((Utf8.decode s p).2 : Nat)) ∧ Below w.heap.size w w' := by
  have hz : (s.extract p s.size).size = s.size - p := by simp
  have e : Lib.decodeGo (s.extract p s.size) = Utf8.decode s p := by
    rw [Lib.decodeGo, if_neg (by omega), decode_at]
  have hc : ∀ W, UTab W → Calls Tryz.prog 128 #[.string (s.extract p s.size)] W fun e w' => e = .returned (.tuple #[.int .i32 (Utf8.decode s p).1, .int .i64 (Utf8.decode s p).2]) ∧ Below W.heap.size W w' := fun W hW => by
    have := Tryz.utf8_DecodeRuneInString (s.extract p s.size) W hW
    rw [e] at this
    exact this
  generalize (Utf8.decode s p).1 = R at *
  generalize (Utf8.decode s p).2 = N at *
  have HC : Hid (∀ W, UTab W → Calls Tryz.prog 128 #[.string (s.extract p s.size)] W fun e w' => e = .returned (.tuple #[.int .i32 R, .int .i64 N]) ∧ Below W.heap.size W w') := hc
  have HT : Hid (UTab w) := hT
  clear hc hT e hz
  go_enter Tryz.func117, Tryz.ntmps117
  go_wp2_with fail
  refine (HC.out _ HT.out).mono ?_
  rintro e w1 ⟨rfl, hb1⟩
  have HB : Hid (Below w.heap.size w w1) := hb1
  clear hb1
  go_wp2
  go_ret
  exact ⟨rfl, HB.out⟩
theorem lt_of_heap {w : World} {g : Nat} {x : Obj} (h : w.heap[g]? = some x) : g < w.heap.size := by
  rcases Nat.lt_or_ge g w.heap.size with hlt | hge
  · exact hlt
  · rw [Array.getElem?_eq_none hge] at h; exact absurd h (by simp)
def IterAt (W : World) (B : Nat) (s : ByteArray) (p : Nat) : Prop := W.heap[B]? = some (.stringIter s p)
def iterSet (W : World) (B : Nat) (s : ByteArray) (p : Nat) : World := { W with heap := W.heap.setIfInBounds B (.stringIter s p) }
theorem next_any {P : Program} (W : World) (B : Nat) (s : ByteArray) (pos : Nat) (ty : TypeId) (hB : IterAt W B s pos) (h : pos < s.size) :
    (Instr.next (.pointer (some ⟨B, 0, none⟩)) true ty).run P W = .ok (.tuple #[.bool true, .int .i64 pos, .int .i32 (Utf8.decode s pos).1]) (iterSet W B s (pos + (Utf8.decode s pos).2)) := by
  unfold IterAt at hB
  simp only [Instr.next, getObj, setObj, Sem.run_bind, Sem.run, hB, Result.andThen, h, if_true]
  simp [goInt, iterSet]
theorem next_end {P : Program} (W : World) (B : Nat) (s : ByteArray) (pos : Nat) (ty : TypeId) (hB : IterAt W B s pos) (h : ¬ pos < s.size) :
    (Instr.next (.pointer (some ⟨B, 0, none⟩)) true ty).run P W = .ok (.tuple #[.bool false]) W := by
  unfold IterAt at hB
  simp [Instr.next, getObj, Sem.run, hB, h]
theorem IterAt.set {W : World} {B : Nat} {s : ByteArray} {p : Nat} (h : IterAt W B s p) (q : Nat) : IterAt (iterSet W B s q) B s q := by
  have := lt_of_heap h
  unfold IterAt iterSet
  simp [this]
theorem IterAt.later {W W' : World} {B : Nat} {s : ByteArray} {p : Nat} (h : IterAt W B s p) (hb : Below W.heap.size W W') : IterAt W' B s p := (hb.block B (lt_of_heap h)).trans h
theorem iterSet_below {w W : World} {B C : Nat} (h : Below C w W) (hB : C ≤ B) (s : ByteArray) (q : Nat) : Below C w (iterSet W B s q) :=
  h.trans ⟨rfl, rfl, rfl, by simp [iterSet], fun k hk => by simp only [iterSet]; rw [Array.getElem?_setIfInBounds_ne (by omega)]⟩
theorem iterSet_size (W : World) (B : Nat) (s : ByteArray) (q : Nat) : (iterSet W B s q).heap.size = W.heap.size := by simp [iterSet]
end Go.Proofs.YtojeemogabhaoaaGreatDoor
namespace Go.Proofs.YtojeemogabhaoaaGreatDoor
open Go.RowKit
set_option maxRecDepth 100000 in
set_option maxHeartbeats 2000000 in
theorem implVal_any (s : ByteArray) (w : World) (hs : s.size ≤ 1000000000) (hT : UTab w) :
    Calls Tryz.prog 95 #[.string s] w fun e w' => e = .returned (.int .i64 (valV s : Nat)) ∧ Below w.heap.size w w' := by
  have HT : Hid (UTab w) := hT
  clear hT
  have hrg : (Instr.range 9 (.string s)).run Tryz.prog w = .ok (.pointer (some ⟨w.heap.size, 0, none⟩)) (w.iter s 0) := run_range_string w 9 s Tryz.underlying9
  have HI0 : Hid (IterAt (w.iter s 0) w.heap.size s 0 ∧ Below w.heap.size w (w.iter s 0)) := ⟨World.iter_heap _ _ _, bnew _ _⟩
  generalize w.iter s 0 = w0 at *
  go_enter Tryz.func95, Tryz.ntmps95
  go_wp2
  clear hrg
  go_loopw [3, 4, 5, 6] (fun cnt con _ _ wr => ∃ (p : Nat) (acc : List Nat) (bc : Bool), p ≤ s.size ∧ acc.length ≤ p ∧ Hid (RInv s p acc ∧ bc = acc.any ctl) ∧ cnt = .int .i64 (acc.length : Nat) ∧ con = .bool bc ∧ Hid (IterAt wr w.heap.size s p ∧ Below w.heap.size w wr)) (fun _ _ _ _ wr => s.size - wr.iterPos w.heap.size)
  case atStart =>
    exact ⟨0, [], false, Nat.zero_le _, Nat.le_refl _, ⟨RInv.start s, rfl⟩, rfl, rfl, HI0.out⟩
  case round =>
    obtain ⟨p, acc, bc, hp, hac, HR, rfl, rfl, HW⟩ := hrel
    have HM : Hid (wr.iterPos w.heap.size = p) := by show _ = _; unfold World.iterPos; rw [HW.out.1]
    clear HI0
    by_cases hlt : p < s.size
    · have hnx : ∀ ty, (Instr.next (.pointer (some ⟨w.heap.size, 0, none⟩)) true ty).run Tryz.prog wr = _ := fun ty => next_any wr w.heap.size s p ty HW.out.1 hlt
      have hpos := decode_pos s p
      have hrun := decode_rune s p
      have HWA : Hid (∀ W, UTab W → Calls Tryz.prog 117 #[.string s, .int .i64 (p : Nat)] W fun e w' => e = .returned (.int .i64 ((Utf8.decode s p).2 : Nat)) ∧ Below W.heap.size W w') := fun W h => widthAt_any s p W hlt h
      have HFIT : Hid (Utf8.decode s p ≠ (65533, 1) → p + (Utf8.decode s p).2 ≤ s.size) := decode_fits s p hlt
      have HST : Hid (Utf8.decode s p ≠ (65533, 1) → RInv s (p + (Utf8.decode s p).2) (acc ++ [(Utf8.decode s p).1])) := fun hd => HR.out.1.step hlt hd
      have HBAD : Hid (Utf8.decode s p = (65533, 1) → valV s = 42) := fun hd => HR.out.1.bad hlt hd
      have HAN : Hid (∀ r, (acc ++ [r]).any ctl = (bc || ctl r)) := fun r => by rw [List.any_append, ← HR.out.2]; simp
      have HW1 : Hid (IterAt (iterSet wr w.heap.size s (p + (Utf8.decode s p).2)) w.heap.size s (p + (Utf8.decode s p).2) ∧ Below w.heap.size w (iterSet wr w.heap.size s (p + (Utf8.decode s p).2))) := ⟨HW.out.1.set _, iterSet_below HW.out.2 (Nat.le_refl _) _ _⟩
      obtain ⟨R, hR⟩ : ∃ R, (Utf8.decode s p).1 = R := ⟨_, rfl⟩
      obtain ⟨N, hN⟩ : ∃ N, (Utf8.decode s p).2 = N := ⟨_, rfl⟩
      have HD : Hid (Utf8.decode s p = (R, N)) := by show _ = _; rw [← hR, ← hN]
      rw [hR] at hrun hnx
      rw [hN] at hrun hnx hpos
      have HWA2 : Hid (∀ W, UTab W → Calls Tryz.prog 117 #[.string s, .int .i64 (p : Nat)] W fun e w' => e = .returned (.int .i64 (N : Nat)) ∧ Below W.heap.size W w') := by show ∀ _, _; rw [← hN]; exact HWA.out
      have HST2 : Hid ((R, N) ≠ (65533, 1) → RInv s (p + N) (acc ++ [R]) ∧ p + N ≤ s.size) := fun h => by
        have hd : Utf8.decode s p ≠ (65533, 1) := by rw [HD.out]; exact h
        have h1 := HST.out hd
        have h2 := HFIT.out hd
        rw [hR, hN] at h1
        rw [hN] at h2
        exact ⟨h1, h2⟩
      have HW2 : Hid (IterAt (iterSet wr w.heap.size s (p + N)) w.heap.size s (p + N) ∧ Below w.heap.size w (iterSet wr w.heap.size s (p + N))) := by show _ ∧ _; rw [← hN]; exact HW1.out
      clear HWA HST HFIT HW1 hR hN HW
      obtain ⟨hr1, hr2⟩ := hrun
      generalize iterSet wr w.heap.size s (p + N) = W1 at *
      have HGO : Hid (∀ W, (R, N) ≠ (65533, 1) → Below W1.heap.size W1 W → ∃ (p' : Nat) (acc' : List Nat) (bc' : Bool), p' ≤ s.size ∧ acc'.length ≤ p' ∧ Hid (RInv s p' acc' ∧ bc' = acc'.any ctl) ∧ Value.int .i64 ((acc.length : Int) + 1) = .int .i64 (acc'.length : Nat) ∧ Value.bool (bc || ctl R) = .bool bc' ∧ Hid (IterAt W w.heap.size s p' ∧ Below w.heap.size w W)) := fun W hne hb =>
        ⟨p + N, acc ++ [R], bc || ctl R, (HST2.out hne).2, (HST2.out hne).1.1, ⟨(HST2.out hne).1, (HAN.out R).symm⟩, by simp, rfl, HW2.out.1.later hb, bto HW2.out.2 hb⟩
      have HME : Hid (∀ W, (R, N) ≠ (65533, 1) → Below W1.heap.size W1 W → s.size - W.iterPos w.heap.size < s.size - wr.iterPos w.heap.size) := fun W hne hb => by
        have h1 : W.iterPos w.heap.size = p + N := by unfold World.iterPos; rw [HW2.out.1.later hb]
        rw [h1, HM.out]
        omega
      by_cases hf : R = 65533
      · have hfb : ((R : Int) == 65533) = true := by simp; omega
        by_cases h1 : N = 1
        · have hnb : ((N : Int) == 1) = true := by simp; omega
          have HV : Hid (valV s = 42) := HBAD.out (by rw [HD.out, hf, h1])
          clear HGO HME
          go_wp2_with fail
          refine (HWA2.out _ (HT.out.later HW2.out.2)).mono ?_
          rintro e w2 ⟨rfl, hb2⟩
          have HB2 : Hid (Below w.heap.size w w2) := bto HW2.out.2 hb2
          clear hb2
          go_wp2
          go_ret
          exact ⟨ret_int (by rw [HV.out]; rfl), HB2.out⟩
        · have hnb : ((N : Int) == 1) = false := by simp; omega
          have hne : (R, N) ≠ (65533, 1) := by simp; omega
          have HNE : Hid ((R, N) ≠ (65533, 1)) := hne
          clear hne hf h1
          cases bc with
          | true =>
            go_wp2_with fail
            refine (HWA2.out _ (HT.out.later HW2.out.2)).mono ?_
            rintro e w2 ⟨rfl, hb2⟩
            have HB2 : Hid (Below W1.heap.size W1 w2) := hb2
            clear hb2
            go_wp2
            have hg := HGO.out _ HNE.out HB2.out
            rw [Bool.true_or] at hg
            exact ⟨hg, HME.out _ HNE.out HB2.out⟩
          | false =>
            go_wp2_with fail
            refine (HWA2.out _ (HT.out.later HW2.out.2)).mono ?_
            rintro e w2 ⟨rfl, hb2⟩
            have HB2 : Hid (Below W1.heap.size W1 w2) := hb2
            clear hb2
            go_wp2_with fail
            refine (isControl_any R _ hr1).mono ?_
            rintro e w3 ⟨rfl, hw⟩
            replace hw := hw.symm
            subst hw
            go_wp2
            have hg := HGO.out _ HNE.out HB2.out
            rw [Bool.false_or] at hg
            exact ⟨hg, HME.out _ HNE.out HB2.out⟩
      · have hfb : ((R : Int) == 65533) = false := by simp; omega
        have HNE : Hid ((R, N) ≠ (65533, 1)) := by show _ ≠ _; simp; omega
        cases bc with
        | true =>
          go_wp2
          have hg := HGO.out _ HNE.out (Below.refl _ _)
          rw [Bool.true_or] at hg
          exact ⟨hg, HME.out _ HNE.out (Below.refl _ _)⟩
        | false =>
          go_wp2_with fail
          refine (isControl_any R _ hr1).mono ?_
          rintro e w3 ⟨rfl, hw⟩
          replace hw := hw.symm
          subst hw
          go_wp2
          have hg := HGO.out _ HNE.out (Below.refl _ _)
          rw [Bool.false_or] at hg
          exact ⟨hg, HME.out _ HNE.out (Below.refl _ _)⟩
    · have hnx : ∀ ty, (Instr.next (.pointer (some ⟨w.heap.size, 0, none⟩)) true ty).run Tryz.prog wr = _ := fun ty => next_end wr w.heap.size s p ty HW.out.1 hlt
      have HV : Hid (valV s = endV acc) := HR.out.1.done (by omega)
      have HC : Hid (bc = acc.any ctl) := HR.out.2
      have HB : Hid (Below w.heap.size w wr) := HW.out.2
      clear HR HW HM
      by_cases h128 : 128 < acc.length
      · have HE2 : Hid (valV s = 43) := by show _ = _; rw [HV.out, endV, if_pos h128]
        go_wp2
        go_ret
        exact ⟨ret_int (by rw [HE2.out]; rfl), HB.out⟩
      · cases bc with
        | true =>
          have HE2 : Hid (valV s = 44) := by show _ = _; rw [HV.out, endV, if_neg h128, ← HC.out]; rfl
          go_wp2
          go_ret
          exact ⟨ret_int (by rw [HE2.out]; rfl), HB.out⟩
        | false =>
          have HE2 : Hid (valV s = 0) := by show _ = _; rw [HV.out, endV, if_neg h128, ← HC.out]; rfl
          go_wp2
          go_ret
          exact ⟨ret_int (by rw [HE2.out]; rfl), HB.out⟩
end Go.Proofs.YtojeemogabhaoaaGreatDoor
