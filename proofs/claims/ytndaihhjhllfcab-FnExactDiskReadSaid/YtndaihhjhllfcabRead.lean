import Derived.Test.YtndaihhjhllfcabProg
import Derived.Test.YtndaihhjhllfcabSv
import Derived.Test.YtndaihhjhllfcabValid
import Derived.Test.YtndaihhjhllfcabFind
namespace Go.Proofs.Ytndaihhjhllfcab
open Go.RowKit

theorem findFrom_spec (t : ByteArray) : ∀ (fs : List FileD) (k : Nat), findFrom t fs k = -1 ∨ ∃ i, i < fs.length ∧ findFrom t fs k = (k + i : Nat)
  | [], _ => Or.inl rfl
  | f :: r, k => by
    rw [findFrom]
    split
    · exact Or.inr ⟨0, by simp, by simp⟩
    · rcases findFrom_spec t r (k + 1) with h | ⟨i, hi, h⟩
      · exact Or.inl h
      · exact Or.inr ⟨i + 1, by simp; omega, by rw [h]; omega⟩

def readOut (fs : List FileD) (dB dn : Bool) (t : ByteArray) : ByteArray × Bool :=
  if dB = true ∧ dn = false then (match (if 0 ≤ findFrom t fs 0 then fs[(findFrom t fs 0).toNat]? else none) with
    | some f => (f.data, true)
    | none => (ByteArray.empty, false)) else (ByteArray.empty, false)



set_option maxHeartbeats 2000000 in
theorem specRead_any (a : Option Addr) (cap : Nat) (fs : List FileD) (c k cr fl : Int) (dn : Bool) (t : ByteArray) (w : World) (hf : FilesIn w a fs) (hs : Short fs) (hlen : fs.length ≤ maxLen) (hsum : sumLen fs ≤ 1000000000) :
    Calls Try.prog 16 #[.agg #[.slice a fs.length cap, .int .i64 c, .int .i64 k, .int .i64 cr, .int .i64 fl, .bool dn], .string t] w fun e w' =>
      e = .returned (.tuple #[.string (readOut fs (diskB fs c k cr fl) dn t).1, .bool (readOut fs (diskB fs c k cr fl) dn t).2]) ∧ Below w.heap.size w w' := by
  have HF : Hid (FilesIn w a fs) := hf
  have HS : Hid (Short fs) := hs
  have HL : Hid (fs.length ≤ maxLen) := hlen
  have HU : Hid (sumLen fs ≤ 1000000000) := hsum
  unfold maxLen at hlen
  clear hf hs hsum
  obtain ⟨dB, hdB⟩ : ∃ dB, diskB fs c k cr fl = dB := ⟨_, rfl⟩
  have HD : Hid (diskB fs c k cr fl = dB) := hdB
  rw [hdB]
  clear hdB
  obtain ⟨z, hz⟩ : ∃ z, findFrom t fs 0 = z := ⟨_, rfl⟩
  have HZ : Hid (findFrom t fs 0 = z) := hz
  have hlf := fun w' h => l1Find_any a cap fs c k cr fl dn t w' h HL.out
  rw [hz] at hlf
  have HLF : Hid (∀ w', FilesIn w' a fs → Calls Try.prog 30 #[.agg #[.slice a fs.length cap, .int .i64 c, .int .i64 k, .int .i64 cr, .int .i64 fl, .bool dn], .string t] w' fun e w'' => e = .returned (.int .i64 z) ∧ Below w'.heap.size w' w'') := hlf
  clear hlf hz
  by_cases h1 : dB = false
  · subst h1
    have E : Hid (readOut fs false dn t = (ByteArray.empty, false)) := by show _ = _; simp [readOut]
    go_enter Try.func16, Try.ntmps16
    go_wp2_with fail
    refine (HLF.out _ (HF.out.later (bnew _ _))).mono ?_
    rintro e w1 ⟨rfl, hb1⟩
    obtain ⟨x0, x1, x2, x3, x4, x5⟩ := (BoxAt.new w (.slice a fs.length cap) (.int .i64 c) (.int .i64 k) (.int .i64 cr) (.int .i64 fl) (.bool dn) 29).later hb1
    go_wp2_with fail
    refine (specValid_is HD.out _ ((HF.out.later (bnew _ _)).later hb1) HS.out HL.out HU.out).mono ?_
    rintro e w2 ⟨rfl, hb2⟩
    obtain ⟨y0, y1, y2, y3, y4, y5⟩ := ((BoxAt.new w (.slice a fs.length cap) (.int .i64 c) (.int .i64 k) (.int .i64 cr) (.int .i64 fl) (.bool dn) 29).later hb1).later hb2
    have HB : Hid (Below w.heap.size w w2) := bto (bto (bnew _ _) hb1) hb2
    clear x0 x1 x2 x3 x4 x5 hb1 hb2
    go_wp2
    go_ret2
    exact ⟨by rw [E.out]; rfl, HB.out⟩
  obtain rfl : dB = true := by simpa using h1
  clear h1
  by_cases h2 : dn = true
  · subst h2
    have E : Hid (readOut fs true true t = (ByteArray.empty, false)) := by show _ = _; simp [readOut]
    go_enter Try.func16, Try.ntmps16
    go_wp2_with fail
    refine (HLF.out _ (HF.out.later (bnew _ _))).mono ?_
    rintro e w1 ⟨rfl, hb1⟩
    obtain ⟨x0, x1, x2, x3, x4, x5⟩ := (BoxAt.new w (.slice a fs.length cap) (.int .i64 c) (.int .i64 k) (.int .i64 cr) (.int .i64 fl) (.bool true) 29).later hb1
    go_wp2_with fail
    refine (specValid_is HD.out _ ((HF.out.later (bnew _ _)).later hb1) HS.out HL.out HU.out).mono ?_
    rintro e w2 ⟨rfl, hb2⟩
    obtain ⟨y0, y1, y2, y3, y4, y5⟩ := ((BoxAt.new w (.slice a fs.length cap) (.int .i64 c) (.int .i64 k) (.int .i64 cr) (.int .i64 fl) (.bool true) 29).later hb1).later hb2
    have HB : Hid (Below w.heap.size w w2) := bto (bto (bnew _ _) hb1) hb2
    clear x0 x1 x2 x3 x4 x5 hb1 hb2
    go_wp2
    go_ret2
    exact ⟨by rw [E.out]; rfl, HB.out⟩
  obtain rfl : dn = false := by simpa using h2
  clear h2
  by_cases h3 : z < 0
  · have E : Hid (readOut fs true false t = (ByteArray.empty, false)) := by
      show _ = _
      have e : ¬ 0 ≤ findFrom t fs 0 := by rw [HZ.out]; omega
      simp [readOut, e]
    go_enter Try.func16, Try.ntmps16
    go_wp2_with fail
    refine (HLF.out _ (HF.out.later (bnew _ _))).mono ?_
    rintro e w1 ⟨rfl, hb1⟩
    obtain ⟨x0, x1, x2, x3, x4, x5⟩ := (BoxAt.new w (.slice a fs.length cap) (.int .i64 c) (.int .i64 k) (.int .i64 cr) (.int .i64 fl) (.bool false) 29).later hb1
    go_wp2_with fail
    refine (specValid_is HD.out _ ((HF.out.later (bnew _ _)).later hb1) HS.out HL.out HU.out).mono ?_
    rintro e w2 ⟨rfl, hb2⟩
    obtain ⟨y0, y1, y2, y3, y4, y5⟩ := ((BoxAt.new w (.slice a fs.length cap) (.int .i64 c) (.int .i64 k) (.int .i64 cr) (.int .i64 fl) (.bool false) 29).later hb1).later hb2
    have HB : Hid (Below w.heap.size w w2) := bto (bto (bnew _ _) hb1) hb2
    clear x0 x1 x2 x3 x4 x5 hb1 hb2
    go_wp2
    go_ret2
    exact ⟨by rw [E.out]; rfl, HB.out⟩
  obtain ⟨i, hi, hzi⟩ : ∃ i, i < fs.length ∧ z = (i : Nat) := by
    rcases findFrom_spec t fs 0 with h | ⟨i, hi, h⟩
    · rw [HZ.out] at h; omega
    · exact ⟨i, hi, by rw [← HZ.out, h]; simp⟩
  subst hzi
  have E : Hid (readOut fs true false t = (fs[i].data, true)) := by
    show _ = _
    have e : 0 ≤ findFrom t fs 0 := by rw [HZ.out]; omega
    have e2 : (findFrom t fs 0).toNat = i := by rw [HZ.out]; simp
    simp [readOut, e, e2, List.getElem?_eq_getElem hi]
  have h4 : ¬ ((i : Int) < 0) := h3
  clear h3
  go_enter Try.func16, Try.ntmps16
  go_wp2_with fail
  refine (HLF.out _ (HF.out.later (bnew _ _))).mono ?_
  rintro e w1 ⟨rfl, hb1⟩
  obtain ⟨x0, x1, x2, x3, x4, x5⟩ := (BoxAt.new w (.slice a fs.length cap) (.int .i64 c) (.int .i64 k) (.int .i64 cr) (.int .i64 fl) (.bool false) 29).later hb1
  go_wp2_with fail
  refine (specValid_is HD.out _ ((HF.out.later (bnew _ _)).later hb1) HS.out HL.out HU.out).mono ?_
  rintro e w2 ⟨rfl, hb2⟩
  obtain ⟨y0, y1, y2, y3, y4, y5⟩ := ((BoxAt.new w (.slice a fs.length cap) (.int .i64 c) (.int .i64 k) (.int .i64 cr) (.int .i64 fl) (.bool false) 29).later hb1).later hb2
  have HB : Hid (Below w.heap.size w w2) := bto (bto (bnew _ _) hb1) hb2
  obtain ⟨b, o, rfl, hb, c0, c1, c2⟩ := (((HF.out.later (bnew _ _)).later hb1).later hb2).at hi
  clear x0 x1 x2 x3 x4 x5 hb1 hb2
  go_wp2
  go_ret2
  exact ⟨by rw [E.out]; rfl, HB.out⟩

set_option maxHeartbeats 2000000 in
theorem implRead_any (a : Option Addr) (cap : Nat) (fs : List FileD) (c k cr fl : Int) (dn : Bool) (t : ByteArray) (w : World) (hf : FilesIn w a fs) (hs : Short fs) (hlen : fs.length ≤ maxLen) (hsum : sumLen fs ≤ 1000000000) :
    Calls Try.prog 17 #[.agg #[.slice a fs.length cap, .int .i64 c, .int .i64 k, .int .i64 cr, .int .i64 fl, .bool dn], .string t] w fun e w' =>
      e = .returned (.tuple #[.string (readOut fs (diskB fs c k cr fl) dn t).1, .bool (readOut fs (diskB fs c k cr fl) dn t).2]) ∧ Below w.heap.size w w' := by
  have HF : Hid (FilesIn w a fs) := hf
  have HS : Hid (Short fs) := hs
  have HL : Hid (fs.length ≤ maxLen) := hlen
  have HU : Hid (sumLen fs ≤ 1000000000) := hsum
  unfold maxLen at hlen
  clear hf hs hsum
  obtain ⟨dB, hdB⟩ : ∃ dB, diskB fs c k cr fl = dB := ⟨_, rfl⟩
  have HD : Hid (diskB fs c k cr fl = dB) := hdB
  rw [hdB]
  clear hdB
  by_cases h1 : dB = false
  · subst h1
    have E : Hid (readOut fs false dn t = (ByteArray.empty, false)) := by show _ = _; simp [readOut]
    go_enter Try.func17, Try.ntmps17
    go_wp2_with fail
    refine (implValid_is HD.out _ (HF.out.later (bnew _ _)) HS.out HL.out HU.out).mono ?_
    rintro e w1 ⟨rfl, hb1⟩
    obtain ⟨x0, x1, x2, x3, x4, x5⟩ := (BoxAt.new w (.slice a fs.length cap) (.int .i64 c) (.int .i64 k) (.int .i64 cr) (.int .i64 fl) (.bool dn) 29).later hb1
    have HB1 : Hid (Below w.heap.size w w1) := bto (bnew _ _) hb1
    clear hb1
    go_wp2
    go_ret2
    exact ⟨by rw [E.out]; rfl, HB1.out⟩
  obtain rfl : dB = true := by simpa using h1
  clear h1
  by_cases h2 : dn = true
  · subst h2
    have E : Hid (readOut fs true true t = (ByteArray.empty, false)) := by show _ = _; simp [readOut]
    go_enter Try.func17, Try.ntmps17
    go_wp2_with fail
    refine (implValid_is HD.out _ (HF.out.later (bnew _ _)) HS.out HL.out HU.out).mono ?_
    rintro e w1 ⟨rfl, hb1⟩
    obtain ⟨x0, x1, x2, x3, x4, x5⟩ := (BoxAt.new w (.slice a fs.length cap) (.int .i64 c) (.int .i64 k) (.int .i64 cr) (.int .i64 fl) (.bool true) 29).later hb1
    have HB1 : Hid (Below w.heap.size w w1) := bto (bnew _ _) hb1
    clear hb1
    go_wp2
    go_ret2
    exact ⟨by rw [E.out]; rfl, HB1.out⟩
  obtain rfl : dn = false := by simpa using h2
  clear h2
  have hd := files_of_disk HD.out
  have HAs : Hid (Asc fs) := asc_of hd.1
  have hl20 : fs.length ≤ 1048576 := by omega
  clear hd
  go_enter Try.func17, Try.ntmps17
  go_wp2_with fail
  refine (implValid_is HD.out _ (HF.out.later (bnew _ _)) HS.out HL.out HU.out).mono ?_
  rintro e w1 ⟨rfl, hb1⟩
  obtain ⟨x0, x1, x2, x3, x4, x5⟩ := (BoxAt.new w (.slice a fs.length cap) (.int .i64 c) (.int .i64 k) (.int .i64 cr) (.int .i64 fl) (.bool false) 29).later hb1
  have HB1 : Hid (Below w.heap.size w w1) := bto (bnew _ _) hb1
  go_wp2_with fail
  refine (findFile_any a cap fs t _ (HF.out.later HB1.out) HAs.out hl20).mono ?_
  rintro e w2 ⟨i, hp, rfl, hb2⟩
  obtain ⟨y0, y1, y2, y3, y4, y5⟩ := ((BoxAt.new w (.slice a fs.length cap) (.int .i64 c) (.int .i64 k) (.int .i64 cr) (.int .i64 fl) (.bool false) 29).later hb1).later hb2
  have HP : Hid (PosIs fs t i) := hp
  have HB : Hid (Below w.heap.size w w2) := bto HB1.out hb2
  clear x0 x1 x2 x3 x4 x5 hb1 hb2 hp HB1
  by_cases h3 : hasB fs t i = false
  · have E : Hid (readOut fs true false t = (ByteArray.empty, false)) := by
      show _ = _
      have e := find_pos HAs.out HP.out
      rw [h3] at e
      simp [readOut, e]
    rw [h3]
    clear h3
    go_wp2
    go_ret2
    exact ⟨by rw [E.out]; rfl, HB.out⟩
  have h4 : hasB fs t i = true := by simpa using h3
  clear h3
  have hi : i < fs.length := by
    unfold hasB at h4
    split at h4
    · exact absurd h4 (by simp)
    · rename_i f hf
      exact (List.getElem?_eq_some_iff.1 hf).1
  have E : Hid (readOut fs true false t = (fs[i].data, true)) := by
    show _ = _
    have e := find_pos HAs.out HP.out
    rw [h4] at e
    simp [readOut, e, List.getElem?_eq_getElem hi]
  rw [h4]
  clear h4
  obtain ⟨b, o, rfl, hb, c0, c1, c2⟩ := (HF.out.later HB.out).at hi
  go_wp2
  go_ret2
  exact ⟨by rw [E.out]; rfl, HB.out⟩
end Go.Proofs.Ytndaihhjhllfcab
