import Derived.Test.YteohobkigjmjlaaDoorProg
import Derived.Test.YteohobkigjmjlaaDoorJ03Ord
import Derived.Test.YteohobkigjmjlaaDoorJ01U8L
import Derived.Test.YteohobkigjmjlaaDoorJ13Shelf
import Derived.Shelf.Unicode.DecodeAny
import Derived.Laws.RangeAny
import Derived.Test.YteohobkigjmjlaaDoorJ12IName
import Derived.Test.YteohobkigjmjlaaDoorJ04NumL
import Derived.Shelf.SlicesQ.IndexFunc
namespace Go.Proofs.YteohobkigjmjlaaDoor
open Go.RowKit

theorem isControl_any (r : Nat) (w : World) (hr : r ≤ 1114111) : Calls Tryd.prog 85 #[.int .i32 (r : Nat)] w fun e w' => e = .returned (.bool (ctl r)) ∧ w' = w := by
  by_cases h1 : r < 32
  · have E : Hid (ctl r = true) := by show _ = _; simp [ctl, h1]
    go_enter Tryd.func85, Tryd.ntmps85
    go_wp2
    go_ret
    exact ⟨ret_bool (by rw [E.out]), rfl⟩
  by_cases h2 : 127 ≤ r
  · by_cases h3 : r ≤ 159
    · have E : Hid (ctl r = true) := by show _ = _; simp [ctl, h2, h3]
      go_enter Tryd.func85, Tryd.ntmps85
      go_wp2
      go_ret
      exact ⟨ret_bool (by rw [E.out]; simp; omega), rfl⟩
    · have E : Hid (ctl r = false) := by show _ = _; simp [ctl, h1, h3]
      go_enter Tryd.func85, Tryd.ntmps85
      go_wp2
      go_ret
      exact ⟨ret_bool (by rw [E.out]; simp; omega), rfl⟩
  · have E : Hid (ctl r = false) := by show _ = _; simp [ctl, h1, h2]
    go_enter Tryd.func85, Tryd.ntmps85
    go_wp2
    go_ret
    exact ⟨ret_bool (by rw [E.out]; simp; omega), rfl⟩

abbrev UTab (w : World) : Prop := Lib.Utf8Tabs 0 1 w
theorem UTab.later {w w' : World} (h : UTab w) (hb : Below w.heap.size w w') : UTab w' := Utf8Tabs_below h hb

set_option maxRecDepth 100000 in
theorem widthAt_any (s : ByteArray) (p : Nat) (w : World) (hp : p < s.size) (hT : UTab w) :
    Calls Tryd.prog 84 #[.string s, .int .i64 (p : Nat)] w fun e w' => e = .returned (.int .i64 ((Utf8.decode s p).2 : Nat)) ∧ Below w.heap.size w w' := by
  have hz : (s.extract p s.size).size = s.size - p := by simp
  have e : Lib.decodeGo (s.extract p s.size) = Utf8.decode s p := by
    rw [Lib.decodeGo, if_neg (by omega), decode_at]
  have hc : ∀ W, UTab W → Calls Tryd.prog 95 #[.string (s.extract p s.size)] W fun e w' => e = .returned (.tuple #[.int .i32 (Utf8.decode s p).1, .int .i64 (Utf8.decode s p).2]) ∧ Below W.heap.size W w' := fun W hW => by
    have := Tryd.utf8_DecodeRuneInString (s.extract p s.size) W hW
    rw [e] at this
    exact this
  generalize (Utf8.decode s p).1 = R at *
  generalize (Utf8.decode s p).2 = N at *
  have HC : Hid (∀ W, UTab W → Calls Tryd.prog 95 #[.string (s.extract p s.size)] W fun e w' => e = .returned (.tuple #[.int .i32 R, .int .i64 N]) ∧ Below W.heap.size W w') := hc
  have HT : Hid (UTab w) := hT
  clear hc hT e hz
  go_enter Tryd.func84, Tryd.ntmps84
  go_wp2_with fail
  refine (HC.out _ HT.out).mono ?_
  rintro e w1 ⟨rfl, hb1⟩
  have HB : Hid (Below w.heap.size w w1) := hb1
  clear hb1
  go_wp2
  go_ret
  exact ⟨rfl, HB.out⟩

theorem lt_of_heap {w : World} {g : Nat} {x : Obj} (h : w.heap[g]? = some x) : g < w.heap.size := by
  rcases Nat.lt_or_ge g w.heap.size with hlt | hge
  · exact hlt
  · rw [Array.getElem?_eq_none hge] at h; exact absurd h (by simp)
/-- Block B is an iterator over s, at p. -/
def IterAt (W : World) (B : Nat) (s : ByteArray) (p : Nat) : Prop := W.heap[B]? = some (.stringIter s p)
def iterSet (W : World) (B : Nat) (s : ByteArray) (p : Nat) : World := { W with heap := W.heap.setIfInBounds B (.stringIter s p) }
theorem next_any {P : Program} (W : World) (B : Nat) (s : ByteArray) (pos : Nat) (ty : TypeId) (hB : IterAt W B s pos) (h : pos < s.size) :
    (Instr.next (.pointer (some ⟨B, 0, none⟩)) true ty).run P W = .ok (.tuple #[.bool true, .int .i64 pos, .int .i32 (Utf8.decode s pos).1]) (iterSet W B s (pos + (Utf8.decode s pos).2)) := by
  unfold IterAt at hB
  simp only [Instr.next, getObj, setObj, Sem.run_bind, Sem.run, hB, Result.andThen, h, if_true]
  simp [goInt, iterSet]
theorem next_end {P : Program} (W : World) (B : Nat) (s : ByteArray) (pos : Nat) (ty : TypeId) (hB : IterAt W B s pos) (h : ¬ pos < s.size) :
    (Instr.next (.pointer (some ⟨B, 0, none⟩)) true ty).run P W = .ok (.tuple #[.bool false]) W := by
  unfold IterAt at hB
  simp [Instr.next, getObj, Sem.run, hB, h]
theorem IterAt.set {W : World} {B : Nat} {s : ByteArray} {p : Nat} (h : IterAt W B s p) (q : Nat) : IterAt (iterSet W B s q) B s q := by
  have := lt_of_heap h
  unfold IterAt iterSet
  simp [this]
theorem IterAt.later {W W' : World} {B : Nat} {s : ByteArray} {p : Nat} (h : IterAt W B s p) (hb : Below W.heap.size W W') : IterAt W' B s p := (hb.block B (lt_of_heap h)).trans h
theorem iterSet_below {w W : World} {B C : Nat} (h : Below C w W) (hB : C ≤ B) (s : ByteArray) (q : Nat) : Below C w (iterSet W B s q) :=
  h.trans ⟨rfl, rfl, rfl, by simp [iterSet], fun k hk => by simp only [iterSet]; rw [Array.getElem?_setIfInBounds_ne (by omega)]⟩
theorem iterSet_size (W : World) (B : Nat) (s : ByteArray) (q : Nat) : (iterSet W B s q).heap.size = W.heap.size := by simp [iterSet]

end Go.Proofs.YteohobkigjmjlaaDoor

namespace Go.Proofs.YteohobkigjmjlaaDoor
open Go.RowKit

set_option maxRecDepth 100000 in
set_option maxHeartbeats 2000000 in
theorem implVal_any (s : ByteArray) (w : World) (hs : s.size ≤ 1000000000) (hT : UTab w) :
    Calls Tryd.prog 67 #[.string s] w fun e w' => e = .returned (.int .i64 (valV s : Nat)) ∧ Below w.heap.size w w' := by
  have HT : Hid (UTab w) := hT
  clear hT
  have hrg : (Instr.range 9 (.string s)).run Tryd.prog w = .ok (.pointer (some ⟨w.heap.size, 0, none⟩)) (w.iter s 0) := run_range_string w 9 s Tryd.underlying9
  have HI0 : Hid (IterAt (w.iter s 0) w.heap.size s 0 ∧ Below w.heap.size w (w.iter s 0)) := ⟨World.iter_heap _ _ _, bnew _ _⟩
  generalize w.iter s 0 = w0 at *
  go_enter Tryd.func67, Tryd.ntmps67
  go_wp2
  clear hrg
  go_loopw [3, 4, 5, 6] (fun cnt con _ _ wr => ∃ (p : Nat) (acc : List Nat) (bc : Bool), p ≤ s.size ∧ acc.length ≤ p ∧ Hid (RInv s p acc ∧ bc = acc.any ctl) ∧ cnt = .int .i64 (acc.length : Nat) ∧ con = .bool bc ∧ Hid (IterAt wr w.heap.size s p ∧ Below w.heap.size w wr)) (fun _ _ _ _ wr => s.size - wr.iterPos w.heap.size)
  case atStart =>
    exact ⟨0, [], false, Nat.zero_le _, Nat.le_refl _, ⟨RInv.start s, rfl⟩, rfl, rfl, HI0.out⟩
  case round =>
    obtain ⟨p, acc, bc, hp, hac, HR, rfl, rfl, HW⟩ := hrel
    have HM : Hid (wr.iterPos w.heap.size = p) := by show _ = _; unfold World.iterPos; rw [HW.out.1]
    clear HI0
    by_cases hlt : p < s.size
    · have hnx : ∀ ty, (Instr.next (.pointer (some ⟨w.heap.size, 0, none⟩)) true ty).run Tryd.prog wr = _ := fun ty => next_any wr w.heap.size s p ty HW.out.1 hlt
      have hpos := decode_pos s p
      have hrun := decode_rune s p
      have HWA : Hid (∀ W, UTab W → Calls Tryd.prog 84 #[.string s, .int .i64 (p : Nat)] W fun e w' => e = .returned (.int .i64 ((Utf8.decode s p).2 : Nat)) ∧ Below W.heap.size W w') := fun W h => widthAt_any s p W hlt h
      have HFIT : Hid (Utf8.decode s p ≠ (65533, 1) → p + (Utf8.decode s p).2 ≤ s.size) := decode_fits s p hlt
      have HST : Hid (Utf8.decode s p ≠ (65533, 1) → RInv s (p + (Utf8.decode s p).2) (acc ++ [(Utf8.decode s p).1])) := fun hd => HR.out.1.step hlt hd
      have HBAD : Hid (Utf8.decode s p = (65533, 1) → valV s = 42) := fun hd => HR.out.1.bad hlt hd
      have HAN : Hid (∀ r, (acc ++ [r]).any ctl = (bc || ctl r)) := fun r => by rw [List.any_append, ← HR.out.2]; simp
      have HW1 : Hid (IterAt (iterSet wr w.heap.size s (p + (Utf8.decode s p).2)) w.heap.size s (p + (Utf8.decode s p).2) ∧ Below w.heap.size w (iterSet wr w.heap.size s (p + (Utf8.decode s p).2))) := ⟨HW.out.1.set _, iterSet_below HW.out.2 (Nat.le_refl _) _ _⟩
      obtain ⟨R, hR⟩ : ∃ R, (Utf8.decode s p).1 = R := ⟨_, rfl⟩
      obtain ⟨N, hN⟩ : ∃ N, (Utf8.decode s p).2 = N := ⟨_, rfl⟩
      have HD : Hid (Utf8.decode s p = (R, N)) := by show _ = _; rw [← hR, ← hN]
      rw [hR] at hrun hnx
      rw [hN] at hrun hnx hpos
      have HWA2 : Hid (∀ W, UTab W → Calls Tryd.prog 84 #[.string s, .int .i64 (p : Nat)] W fun e w' => e = .returned (.int .i64 (N : Nat)) ∧ Below W.heap.size W w') := by show ∀ _, _; rw [← hN]; exact HWA.out
      have HST2 : Hid ((R, N) ≠ (65533, 1) → RInv s (p + N) (acc ++ [R]) ∧ p + N ≤ s.size) := fun h => by
        have hd : Utf8.decode s p ≠ (65533, 1) := by rw [HD.out]; exact h
        have h1 := HST.out hd
        have h2 := HFIT.out hd
        rw [hR, hN] at h1
        rw [hN] at h2
        exact ⟨h1, h2⟩
      have HW2 : Hid (IterAt (iterSet wr w.heap.size s (p + N)) w.heap.size s (p + N) ∧ Below w.heap.size w (iterSet wr w.heap.size s (p + N))) := by show _ ∧ _; rw [← hN]; exact HW1.out
      clear HWA HST HFIT HW1 hR hN HW
      obtain ⟨hr1, hr2⟩ := hrun
      generalize iterSet wr w.heap.size s (p + N) = W1 at *
      have HGO : Hid (∀ W, (R, N) ≠ (65533, 1) → Below W1.heap.size W1 W → ∃ (p' : Nat) (acc' : List Nat) (bc' : Bool), p' ≤ s.size ∧ acc'.length ≤ p' ∧ Hid (RInv s p' acc' ∧ bc' = acc'.any ctl) ∧ Value.int .i64 ((acc.length : Int) + 1) = .int .i64 (acc'.length : Nat) ∧ Value.bool (bc || ctl R) = .bool bc' ∧ Hid (IterAt W w.heap.size s p' ∧ Below w.heap.size w W)) := fun W hne hb =>
        ⟨p + N, acc ++ [R], bc || ctl R, (HST2.out hne).2, (HST2.out hne).1.1, ⟨(HST2.out hne).1, (HAN.out R).symm⟩, by simp, rfl, HW2.out.1.later hb, bto HW2.out.2 hb⟩
      have HME : Hid (∀ W, (R, N) ≠ (65533, 1) → Below W1.heap.size W1 W → s.size - W.iterPos w.heap.size < s.size - wr.iterPos w.heap.size) := fun W hne hb => by
        have h1 : W.iterPos w.heap.size = p + N := by unfold World.iterPos; rw [HW2.out.1.later hb]
        rw [h1, HM.out]
        omega
      by_cases hf : R = 65533
      · have hfb : ((R : Int) == 65533) = true := by simp; omega
        by_cases h1 : N = 1
        · have hnb : ((N : Int) == 1) = true := by simp; omega
          have HV : Hid (valV s = 42) := HBAD.out (by rw [HD.out, hf, h1])
          clear HGO HME
          go_wp2_with fail
          refine (HWA2.out _ (HT.out.later HW2.out.2)).mono ?_
          rintro e w2 ⟨rfl, hb2⟩
          have HB2 : Hid (Below w.heap.size w w2) := bto HW2.out.2 hb2
          clear hb2
          go_wp2
          go_ret
          exact ⟨ret_int (by rw [HV.out]; rfl), HB2.out⟩
        · have hnb : ((N : Int) == 1) = false := by simp; omega
          have hne : (R, N) ≠ (65533, 1) := by simp; omega
          have HNE : Hid ((R, N) ≠ (65533, 1)) := hne
          clear hne hf h1
          cases bc with
          | true =>
            go_wp2_with fail
            refine (HWA2.out _ (HT.out.later HW2.out.2)).mono ?_
            rintro e w2 ⟨rfl, hb2⟩
            have HB2 : Hid (Below W1.heap.size W1 w2) := hb2
            clear hb2
            go_wp2
            have hg := HGO.out _ HNE.out HB2.out
            rw [Bool.true_or] at hg
            exact ⟨hg, HME.out _ HNE.out HB2.out⟩
          | false =>
            go_wp2_with fail
            refine (HWA2.out _ (HT.out.later HW2.out.2)).mono ?_
            rintro e w2 ⟨rfl, hb2⟩
            have HB2 : Hid (Below W1.heap.size W1 w2) := hb2
            clear hb2
            go_wp2_with fail
            refine (isControl_any R _ hr1).mono ?_
            rintro e w3 ⟨rfl, hw⟩
            replace hw := hw.symm
            subst hw
            go_wp2
            have hg := HGO.out _ HNE.out HB2.out
            rw [Bool.false_or] at hg
            exact ⟨hg, HME.out _ HNE.out HB2.out⟩
      · have hfb : ((R : Int) == 65533) = false := by simp; omega
        have HNE : Hid ((R, N) ≠ (65533, 1)) := by show _ ≠ _; simp; omega
        cases bc with
        | true =>
          go_wp2
          have hg := HGO.out _ HNE.out (Below.refl _ _)
          rw [Bool.true_or] at hg
          exact ⟨hg, HME.out _ HNE.out (Below.refl _ _)⟩
        | false =>
          go_wp2_with fail
          refine (isControl_any R _ hr1).mono ?_
          rintro e w3 ⟨rfl, hw⟩
          replace hw := hw.symm
          subst hw
          go_wp2
          have hg := HGO.out _ HNE.out (Below.refl _ _)
          rw [Bool.false_or] at hg
          exact ⟨hg, HME.out _ HNE.out (Below.refl _ _)⟩
    · have hnx : ∀ ty, (Instr.next (.pointer (some ⟨w.heap.size, 0, none⟩)) true ty).run Tryd.prog wr = _ := fun ty => next_end wr w.heap.size s p ty HW.out.1 hlt
      have HV : Hid (valV s = endV acc) := HR.out.1.done (by omega)
      have HC : Hid (bc = acc.any ctl) := HR.out.2
      have HB : Hid (Below w.heap.size w wr) := HW.out.2
      clear HR HW HM
      by_cases h128 : 128 < acc.length
      · have HE2 : Hid (valV s = 43) := by show _ = _; rw [HV.out, endV, if_pos h128]
        go_wp2
        go_ret
        exact ⟨ret_int (by rw [HE2.out]; rfl), HB.out⟩
      · cases bc with
        | true =>
          have HE2 : Hid (valV s = 44) := by show _ = _; rw [HV.out, endV, if_neg h128, ← HC.out]; rfl
          go_wp2
          go_ret
          exact ⟨ret_int (by rw [HE2.out]; rfl), HB.out⟩
        | false =>
          have HE2 : Hid (valV s = 0) := by show _ = _; rw [HV.out, endV, if_neg h128, ← HC.out]; rfl
          go_wp2
          go_ret
          exact ⟨ret_int (by rw [HE2.out]; rfl), HB.out⟩
end Go.Proofs.YteohobkigjmjlaaDoor

namespace Go.Proofs.YteohobkigjmjlaaDoor
open Go.RowKit

abbrev labI : Inhabited LabD := ⟨⟨ByteArray.empty, ByteArray.empty⟩⟩
def encL (x : LabD) : List Value := [.string x.name, .string x.value]

set_option maxRecDepth 100000 in
set_option maxHeartbeats 1000000 in
theorem labelCode_any (l : LabD) (w : World) (hn : l.name.size ≤ 1000000000) (hv : l.value.size ≤ 1000000000) (hT : UTab w) :
    Calls Tryd.prog 49 #[.agg #[.string l.name, .string l.value]] w fun e w' => e = .returned (.int .i64 (labV l : Nat)) ∧ Below w.heap.size w w' := by
  have HT : Hid (UTab w) := hT
  have HN : Hid (∀ W, Calls Tryd.prog 66 #[.string l.name] W fun e w' => e = .returned (.bool (nameB l.name)) ∧ w' = W) := fun W => implName_any l.name W (by unfold maxLen; omega)
  have HV : Hid (∀ W, UTab W → Calls Tryd.prog 67 #[.string l.value] W fun e w' => e = .returned (.int .i64 (valV l.value : Nat)) ∧ Below W.heap.size W w') := fun W h => implVal_any l.value W hv h
  clear hT hn hv
  by_cases h : nameB l.name = true
  · have E : Hid (labV l = valV l.value) := by show _ = _; rw [labV, if_pos h]
    rw [E.out]
    have HH : Hid (nameB l.name = true) := h
    clear h E
    generalize l.name = nm at *
    generalize l.value = va at *
    generalize valV va = V at *
    go_enter Tryd.func49, Tryd.ntmps49
    go_wp2_with fail
    refine (HN.out _).mono ?_
    rintro e w1 ⟨rfl, hw⟩
    rw [HH.out]
    replace hw := hw.symm
    subst hw
    go_wp2_with fail
    refine (HV.out _ (HT.out.later (bnew _ _))).mono ?_
    rintro e w2 ⟨rfl, hb⟩
    have HB : Hid (Below w.heap.size w w2) := bto (bnew _ _) hb
    clear hb
    go_wp2
    go_ret
    exact ⟨rfl, HB.out⟩
  · have HH : Hid (nameB l.name = false) := by show _ = _; simpa using h
    have E : Hid (labV l = 41) := by show _ = _; rw [labV, if_neg h]
    rw [E.out]
    clear h E
    generalize l.name = nm at *
    generalize l.value = va at *
    go_enter Tryd.func49, Tryd.ntmps49
    go_wp2_with fail
    refine (HN.out _).mono ?_
    rintro e w1 ⟨rfl, hw⟩
    rw [HH.out]
    replace hw := hw.symm
    subst hw
    go_wp2
    go_ret
    exact ⟨rfl, bnew _ _⟩

theorem hasFn_any (t : ByteArray) (B : Nat) (w : World) (hB : B < w.heap.size) (hcell : w.cell? ⟨B, 0, none⟩ = some (.string t)) :
    PredBelow Tryd.prog 69 #[.pointer (some ⟨B, 0, none⟩)] (fun x => .agg (encL x).toArray) (fun x : LabD => x.name.toList == t.toList) w := fun W x hb => by
  have hc : W.cell? ⟨B, 0, none⟩ = some (.string t) := (hb.cell (p := ⟨B, 0, none⟩) hB).trans hcell
  have hBW : B < W.heap.size := Nat.lt_of_lt_of_le hB hb.size
  have hne : B ≠ W.heap.size := by omega
  show Calls Tryd.prog 69 #[.agg #[.string x.name, .string x.value], .pointer (some ⟨B, 0, none⟩)] W _
  go_enter Tryd.func69, Tryd.ntmps69
  go_wp2
  go_ret
  exact ⟨rfl, hb.alloc hb.size _⟩

set_option maxRecDepth 100000 in
set_option maxHeartbeats 1000000 in
theorem hasName_any (b o n c : Nat) (ls : List LabD) (t : ByteArray) (w : World) (hb : b < w.heap.size) (hl : LabsAt w b o ls) (hn : n ≤ ls.length) (hlen : ls.length ≤ 2000000) :
    Calls Tryd.prog 50 #[.slice (some ⟨b, o, none⟩) n c, .string t] w fun e w' => e = .returned (.bool ((ls.take n).any fun x => x.name.toList == t.toList)) ∧ Below w.heap.size w w' := by
  have eg : ∀ args w, (callFunc 69 args).run Tryd.prog w = .ok (.enter 69 args) w := enters_of Tryd.func69 (by kernel_rfl) rfl
  haveI := labI
  have hcon := AnyQ.slices_ContainsFunc Tryd.contL 2 Tryd.isAgg40 Tryd.sizeOf40 encL (fun _ => rfl) (fun x : LabD => x.name.toList == t.toList) 69 #[.pointer (some ⟨w.heap.size, 0, none⟩)] eg b o n c ls (w.alloc (.cells #[.string t] 9))
    (hasFn_any t w.heap.size _ (by simp) (by simp)) hn (by omega) (by simp; omega) (fun j hj i v hi => by
      refine Lib.cell?_alloc_some _ ?_
      have h1 := hl j hj
      have e : ls[j]! = ls[j] := getElem!_pos ls j hj
      rw [e] at hi
      match i, hi with
      | 0, hi => simp [encL] at hi; rw [← hi]; exact h1.1
      | 1, hi => simp [encL] at hi; rw [← hi]; exact h1.2
      | i + 2, hi => simp [encL] at hi)
  change Calls Tryd.prog 68 _ _ _ at hcon
  clear hl
  generalize ((ls.take n).any fun x => x.name.toList == t.toList) = r at hcon ⊢
  go_enter Tryd.func50, Tryd.ntmps50
  go_wp2_with (go_at_call 68; refine hcon.mono ?_; rintro e w' ⟨rfl, hb'⟩)
  go_ret
  exact ⟨rfl, ((Below.refl _ w).alloc (Nat.le_refl _) _).trans (hb'.mono (by simp))⟩

theorem mname_list : mname.toList = [95, 95, 110, 97, 109, 101, 95, 95] := by rw [mname, ByteArray.toList_eq]

set_option maxRecDepth 100000 in
set_option maxHeartbeats 1000000 in
theorem metricOf_any (a : Option Addr) (cap : Nat) (ls : List LabD) (w : World) (hf : LabsIn w a ls) (hlen : ls.length ≤ 2000000) :
    Calls Tryd.prog 43 #[.slice a ls.length cap] w fun e w' => e = .returned (.string (metV ls)) ∧ Below w.heap.size w w' := by
  have HF : Hid (LabsIn w a ls) := hf
  clear hf
  go_enter Tryd.func43, Tryd.ntmps43
  go_wp2
  go_loopw [4, 7] (fun _ i wr => ∃ k : Nat, k ≤ ls.length ∧ i = .int .i64 k ∧ Hid (metV ls = metV (ls.drop k)) ∧ Below w.heap.size w wr) (fun _ i _ => ls.length - (intOf i).toNat)
  case atStart => exact ⟨0, Nat.zero_le _, rfl, rfl, Below.refl _ _⟩
  case round =>
    obtain ⟨k, hk, rfl, HK, hbel⟩ := hrel
    by_cases hlt : k < ls.length
    · obtain ⟨b, o, rfl, hb, c0, c1⟩ := (HF.out.later hbel).at hlt
      have HS := metV_step ls k hlt
      have HM : Hid (isMet ls[k] = (ls[k].name.toList == [95, 95, 110, 97, 109, 101, 95, 95])) := by show _ = _; rw [isMet, mname_list]
      generalize ls[k].name = nm at *
      by_cases hm : isMet ls[k] = true
      · have hmb : (nm.toList == [95, 95, 110, 97, 109, 101, 95, 95]) = true := by rw [← HM.out]; exact hm
        have E : Hid (metV ls = ls[k].value) := by show _ = _; rw [HK.out, HS, if_pos hm]
        clear HS hm
        generalize ls[k].value = va at *
        go_wp2
        go_ret
        exact ⟨by rw [E.out]; rfl, bto hbel (bnew _ _)⟩
      · have hmb : (nm.toList == [95, 95, 110, 97, 109, 101, 95, 95]) = false := by rw [← HM.out]; simpa using hm
        have E : Hid (metV ls = metV (ls.drop (k + 1))) := by show _ = _; rw [HK.out, HS, if_neg hm]
        clear HS hm
        generalize ls[k].value = va at *
        go_wp2
        exact ⟨⟨k + 1, by omega, by go_num, E.out, bto hbel (bnew _ _)⟩, by simp [intOf]; omega⟩
    · have E : Hid (metV ls = ByteArray.empty) := by
        show _ = _
        rw [HK.out, List.drop_of_length_le (by omega)]; rfl
      go_wp2
      go_ret
      exact ⟨by rw [E.out]; rfl, hbel⟩
end Go.Proofs.YteohobkigjmjlaaDoor

namespace Go.Proofs.YteohobkigjmjlaaDoor
open Go.RowKit

def BigL (ls : List LabD) : Prop := ∀ i (h : i < ls.length), ls[i].name.size ≤ 1000000000 ∧ ls[i].value.size ≤ 1000000000
def faultR (ls : List LabD) : Nat × Nat :=
  if 16 < ls.length then (40, 0) else match firstBad ls 0 with
  | some (c, i) => (c, i)
  | none => match firstTw [] ls 0 with
    | some i => (45, i)
    | none => if ((metV ls).toList == ByteArray.empty.toList) = true then (46, 0) else (0, 0)
theorem ret_2 {a b c d : Nat} (h1 : a = c) (h2 : b = d) : Ending.returned (.tuple #[.int .i64 (a : Nat), .int .i64 (b : Nat)]) = .returned (.tuple #[.int .i64 (c : Nat), .int .i64 (d : Nat)]) := by rw [h1, h2]
theorem fault_many {ls : List LabD} (h : 16 < ls.length) : faultR ls = (40, 0) := by unfold faultR; rw [if_pos h]
theorem fault_bad {ls : List LabD} (h : ¬ 16 < ls.length) {c i : Nat} (hb : firstBad ls 0 = some (c, i)) : faultR ls = (c, i) := by unfold faultR; rw [if_neg h, hb]
theorem fault_twice {ls : List LabD} (h : ¬ 16 < ls.length) (hb : firstBad ls 0 = none) {i : Nat} (ht : firstTw [] ls 0 = some i) : faultR ls = (45, i) := by unfold faultR; rw [if_neg h, hb, ht]
theorem fault_end {ls : List LabD} (h : ¬ 16 < ls.length) (hb : firstBad ls 0 = none) (ht : firstTw [] ls 0 = none) : faultR ls = if ((metV ls).toList == ByteArray.empty.toList) = true then (46, 0) else (0, 0) := by unfold faultR; rw [if_neg h, hb, ht]

set_option maxRecDepth 100000 in
set_option maxHeartbeats 2000000 in
theorem faultOf_any (a : Option Addr) (cap : Nat) (ls : List LabD) (w : World) (hf : LabsIn w a ls) (hB : BigL ls) (hlen : ls.length ≤ 2000000) (hcap : ls.length ≤ cap) (hT : UTab w) :
    Calls Tryd.prog 28 #[.slice a ls.length cap] w fun e w' => e = .returned (.tuple #[.int .i64 ((faultR ls).1 : Nat), .int .i64 ((faultR ls).2 : Nat)]) ∧ Below w.heap.size w w' := by
  have HF : Hid (LabsIn w a ls) := hf
  have HB : Hid (BigL ls) := hB
  have HT : Hid (UTab w) := hT
  clear hf hB hT
  by_cases h16 : 16 < ls.length
  · rw [fault_many h16]
    go_enter Tryd.func28, Tryd.ntmps28
    go_wp2
    go_ret2
    exact ⟨rfl, Below.refl _ _⟩
  have H16 : Hid (¬ 16 < ls.length) := h16
  go_enter Tryd.func28, Tryd.ntmps28
  go_wp2
  go_loopw [4, 5, 6, 14] (fun _ _ _ i wr => ∃ k : Nat, k ≤ ls.length ∧ i = .int .i64 k ∧ Hid (firstBad ls 0 = firstBad (ls.drop k) k) ∧ Below w.heap.size w wr) (fun _ _ _ i _ => ls.length - (intOf i).toNat)
  case atStart => exact ⟨0, Nat.zero_le _, rfl, rfl, Below.refl _ _⟩
  case round =>
    obtain ⟨k, hk, rfl, HK, hbel⟩ := hrel
    by_cases hlt : k < ls.length
    · obtain ⟨b, o, rfl, hb, c0, c1⟩ := (HF.out.later hbel).at hlt
      obtain ⟨hs1, hs2⟩ := HB.out k hlt
      have HLC : Hid (∀ W, UTab W → Calls Tryd.prog 49 #[.agg #[.string ls[k].name, .string ls[k].value]] W fun e w' => e = .returned (.int .i64 (labV ls[k] : Nat)) ∧ Below W.heap.size W w') := fun W h => labelCode_any ls[k] W hs1 hs2 h
      have HS := firstBad_step ls k hlt
      have hnb : ¬ b = wr.heap.size := by omega
      by_cases h0 : labV ls[k] = 0
      · have E : Hid (firstBad ls 0 = firstBad (ls.drop (k + 1)) (k + 1)) := by show _ = _; rw [HK.out, HS, if_pos h0]
        have HLC2 : Hid (∀ W, UTab W → Calls Tryd.prog 49 #[.agg #[.string ls[k].name, .string ls[k].value]] W fun e w' => e = .returned (.int .i64 0) ∧ Below W.heap.size W w') := by
          show ∀ _, _
          have := HLC.out
          rw [h0] at this
          exact this
        clear HS HLC h0 hs1 hs2
        generalize ls[k].name = nm at *
        generalize ls[k].value = va at *
        go_wp2_with fail
        refine (HLC2.out _ ((HT.out.later hbel).later (bnew _ _))).mono ?_
        rintro e w1 ⟨rfl, hb1⟩
        have HB1 : Hid (Below w.heap.size w w1) := bto (bto hbel (bnew _ _)) hb1
        clear hb1
        go_wp2
        exact ⟨⟨k + 1, by omega, by go_num, E.out, HB1.out⟩, by simp [intOf]; omega⟩
      · have E : Hid (faultR ls = (labV ls[k], k)) := fault_bad H16.out (by rw [HK.out, HS, if_neg h0])
        have h0b : ((labV ls[k] : Int) != 0) = true := by simp; omega
        clear HS h0 hs1 hs2
        generalize labV ls[k] = V at *
        generalize ls[k].name = nm at *
        generalize ls[k].value = va at *
        go_wp2_with fail
        refine (HLC.out _ ((HT.out.later hbel).later (bnew _ _))).mono ?_
        rintro e w1 ⟨rfl, hb1⟩
        have HB1 : Hid (Below w.heap.size w w1) := bto (bto hbel (bnew _ _)) hb1
        clear hb1
        go_wp2
        go_ret2
        exact ⟨ret_2 (by rw [E.out]) (by rw [E.out]), HB1.out⟩
    · have HN : Hid (firstBad ls 0 = none) := by
        show _ = _
        rw [HK.out, List.drop_of_length_le (by omega)]; rfl
      clear HK
      go_wp2
      clear hlt hk
      go_loopw [7, 8, 28] (fun _ _ i wr => ∃ k : Nat, k ≤ ls.length ∧ i = .int .i64 k ∧ Hid (firstTw [] ls 0 = firstTw (ls.take k) (ls.drop k) k) ∧ Below w.heap.size w wr) (fun _ _ i _ => ls.length - (intOf i).toNat)
      case atStart => exact ⟨0, Nat.zero_le _, rfl, rfl, hbel⟩
      case round =>
        clear hbel
        obtain ⟨k, hk, rfl, HK, hbel⟩ := hrel
        by_cases hlt : k < ls.length
        · obtain ⟨b, o, rfl, hb, c0, c1⟩ := (HF.out.later hbel).at hlt
          have HS := firstTw_step ls k hlt
          have hnb : ¬ b = wr.heap.size := by omega
          have hat : LabsAt wr b o ls := by
            rcases HF.out.later hbel with h | ⟨b', o', e, _, h⟩
            · rw [h] at hlt; exact absurd hlt (by simp)
            · simp only [Option.some.injEq, Addr.mk.injEq, and_true] at e
              obtain ⟨rfl, rfl⟩ := e
              exact h
          have HHN : Hid (∀ W, Below wr.heap.size wr W → Calls Tryd.prog 50 #[.slice (some ⟨b, o, none⟩) k cap, .string ls[k].name] W fun e w' => e = .returned (.bool ((ls.take k).any fun x => sameN x ls[k])) ∧ Below W.heap.size W w') := fun W hW => by
            have h2 : LabsAt W b o ls := fun i hi => by
              have := hat i hi
              exact ⟨(hW.cell hb).trans this.1, (hW.cell hb).trans this.2⟩
            exact hasName_any b o k cap ls ls[k].name W (Nat.lt_of_lt_of_le hb hW.size) h2 (by omega) hlen
          have hk0 : (0 : Int) ≤ (k : Int) := by omega
          have hkc : (k : Int) ≤ (cap : Int) := by omega
          clear hat
          by_cases ht : ((ls.take k).any fun x => sameN x ls[k]) = true
          · have E : Hid (faultR ls = (45, k)) := fault_twice H16.out HN.out (by rw [HK.out, HS, if_pos ht])
            have HHN2 : Hid (∀ W, Below wr.heap.size wr W → Calls Tryd.prog 50 #[.slice (some ⟨b, o, none⟩) k cap, .string ls[k].name] W fun e w' => e = .returned (.bool true) ∧ Below W.heap.size W w') := by
              show ∀ _, _
              have := HHN.out
              rw [ht] at this
              exact this
            clear HS HHN ht
            generalize ls[k].name = nm at *
            generalize ls[k].value = va at *
            have d0 : ∀ x : Later (wr.alloc (.cells #[.string nm, .string va] 40)), x.w'.cell? ⟨wr.heap.size, 0, none⟩ = some (.string nm) := Later.cells (by simp)
            have hne := Later.there (wr.alloc (.cells #[.string nm, .string va] 40))
            go_wp2_with fail
            refine wp_region_later (by kernel_rfl) (by kernel_rfl) ?_
            repeat (go_big_quiet_step (first | (go_at_call 50; exact calls_later (HHN2.out _ (bto (bnew _ _) (Later.h _))))))
            refine wpQuiet_nil ?_
            rintro _ ⟨x, rfl⟩
            have HX : Hid (Below w.heap.size w x.w') := bto (bto hbel (bnew _ _)) x.h
            clear d0 hne
            generalize x.w' = W at *
            clear x
            go_wp2
            go_ret2
            exact ⟨ret_2 (by rw [E.out]) (by rw [E.out]), HX.out⟩
          · have E : Hid (firstTw [] ls 0 = firstTw (ls.take (k + 1)) (ls.drop (k + 1)) (k + 1)) := by show _ = _; rw [HK.out, HS, if_neg ht]
            have HHN2 : Hid (∀ W, Below wr.heap.size wr W → Calls Tryd.prog 50 #[.slice (some ⟨b, o, none⟩) k cap, .string ls[k].name] W fun e w' => e = .returned (.bool false) ∧ Below W.heap.size W w') := by
              show ∀ _, _
              have h1 : ((ls.take k).any fun x => sameN x ls[k]) = false := by simpa using ht
              have := HHN.out
              rw [h1] at this
              exact this
            clear HS HHN ht
            generalize ls[k].name = nm at *
            generalize ls[k].value = va at *
            have d0 : ∀ x : Later (wr.alloc (.cells #[.string nm, .string va] 40)), x.w'.cell? ⟨wr.heap.size, 0, none⟩ = some (.string nm) := Later.cells (by simp)
            have hne := Later.there (wr.alloc (.cells #[.string nm, .string va] 40))
            go_wp2_with fail
            refine wp_region_later (by kernel_rfl) (by kernel_rfl) ?_
            repeat (go_big_quiet_step (first | (go_at_call 50; exact calls_later (HHN2.out _ (bto (bnew _ _) (Later.h _))))))
            refine wpQuiet_nil ?_
            rintro _ ⟨x, rfl⟩
            have HX : Hid (Below w.heap.size w x.w') := bto (bto hbel (bnew _ _)) x.h
            clear d0 hne
            generalize x.w' = W at *
            clear x
            go_wp2
            exact ⟨⟨k + 1, by omega, by go_num, E.out, HX.out⟩, by simp [intOf]; omega⟩
        · have HN2 : Hid (firstTw [] ls 0 = none) := by
            show _ = _
            rw [HK.out, List.drop_of_length_le (by omega)]; rfl
          have HM : Hid (Calls Tryd.prog 43 #[.slice a ls.length cap] wr fun e w' => e = .returned (.string (metV ls)) ∧ Below wr.heap.size wr w') := metricOf_any a cap ls wr (HF.out.later hbel) hlen
          have E := fault_end H16.out HN.out HN2.out
          have HEM : Hid (ByteArray.empty.toList = []) := by show _ = _; rw [ByteArray.toList_eq]; rfl
          generalize metV ls = M at *
          by_cases hm : (M.toList == ByteArray.empty.toList) = true
          · have E2 : Hid (faultR ls = (46, 0)) := by show _ = _; rw [E, if_pos hm]
            have hmb : M.toList.isEmpty = true := by rw [HEM.out] at hm; simpa using hm
            clear hm E
            go_wp2_with fail
            refine HM.out.mono ?_
            rintro e w1 ⟨rfl, hb1⟩
            have HB1 : Hid (Below w.heap.size w w1) := bto hbel hb1
            clear hb1
            go_wp2
            go_ret2
            exact ⟨ret_2 (by rw [E2.out]) (by rw [E2.out]), HB1.out⟩
          · have E2 : Hid (faultR ls = (0, 0)) := by show _ = _; rw [E, if_neg hm]
            have hmb : M.toList.isEmpty = false := by rw [HEM.out] at hm; simpa using hm
            clear hm E
            go_wp2_with fail
            refine HM.out.mono ?_
            rintro e w1 ⟨rfl, hb1⟩
            have HB1 : Hid (Below w.heap.size w w1) := bto hbel hb1
            clear hb1
            go_wp2
            go_ret2
            exact ⟨ret_2 (by rw [E2.out]) (by rw [E2.out]), HB1.out⟩
end Go.Proofs.YteohobkigjmjlaaDoor

