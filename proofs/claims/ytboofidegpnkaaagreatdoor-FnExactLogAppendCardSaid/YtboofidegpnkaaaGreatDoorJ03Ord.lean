import Derived.Test.YtboofidegpnkaaaGreatDoorProg
import Derived.Test.YtboofidegpnkaaaGreatDoorJ01Btw
import Derived.Test.YtboofidegpnkaaaGreatDoorJ02Shelf
import Derived.WalkKit
namespace Go.Proofs.YtboofidegpnkaaaGreatDoor
open Go.RowKit
def okM (marks : List UInt8) (c : UInt8) : Bool := (97 ≤ c && c ≤ 122) || (48 ≤ c && c ≤ 57) || decide (0 ≤ Lib.indexByte marks c)
def plainB (s : ByteArray) (most : Int) (marks : ByteArray) : Bool := decide (1 ≤ s.size) && decide ((s.size : Int) ≤ most) && s.data.toList.all (okM marks.data.toList)
theorem index_any (mk : ByteArray) (c : UInt8) (w : World) : Calls Tryz.prog 83 #[.string mk, .int .u8 (c.toNat : Int)] w fun e w' => e = .returned (.int .i64 (Lib.indexByte mk.data.toList c)) ∧ w' = w := by
  have := Tryz.strings_IndexByte mk (c.toNat : Int) w
  simpa using this
theorem all_take_succ {s : ByteArray} {f : UInt8 → Bool} {k : Nat} (h : k < s.size) : (s.data.toList.take (k + 1)).all f = ((s.data.toList.take k).all f && f s[k]) := by
  rw [take_snoc s k h]; simp
theorem all_not {l : List UInt8} {f : UInt8 → Bool} {k : Nat} (h : (l.take k).all f = false) : l.all f = false := by
  rw [Bool.eq_false_iff] at h ⊢
  intro h'
  apply h
  simp only [List.all_eq_true] at h' ⊢
  exact fun x hx => h' x (List.mem_of_mem_take hx)
theorem letter_eq (c : UInt8) : (97 ≤ c && c ≤ 122) = decide (97 ≤ (c.toNat : Int) ∧ (c.toNat : Int) ≤ 122) := by rw [Bool.eq_iff_iff]; simp [UInt8.le_iff_toNat_le]; omega
theorem digit_eq (c : UInt8) : (48 ≤ c && c ≤ 57) = decide (48 ≤ (c.toNat : Int) ∧ (c.toNat : Int) ≤ 57) := by rw [Bool.eq_iff_iff]; simp [UInt8.le_iff_toNat_le]; omega
set_option maxRecDepth 100000 in
set_option maxHeartbeats 2000000 in
theorem isPlain_any (s : ByteArray) (most : Int) (mk : ByteArray) (w : World) (hs : s.size ≤ maxLen) :
    Calls Tryz.prog 78 #[.string s, .int .i64 most, .string mk] w fun e w' => e = .returned (.bool (plainB s most mk)) ∧ w' = w := by
  unfold maxLen at hs
  by_cases h0 : (s.size : Int) < 1
  · have HN : Hid (plainB s most mk = false) := by show _ = _; simp [plainB]; omega
    go_enter Tryz.func78, Tryz.ntmps78
    go_wp2
    go_ret
    exact ⟨ret_bool HN.out.symm, rfl⟩
  by_cases h1 : most < (s.size : Int)
  · have HN : Hid (plainB s most mk = false) := by
      show _ = _
      have : decide ((s.size : Int) ≤ most) = false := by simp; omega
      simp [plainB, this]
    go_enter Tryz.func78, Tryz.ntmps78
    go_wp2
    go_ret
    exact ⟨ret_bool HN.out.symm, rfl⟩
  have HN : Hid (plainB s most mk = s.data.toList.all (okM mk.data.toList)) := by
    show _ = _
    have e1 : 1 ≤ s.size := by omega
    have e2 : (s.size : Int) ≤ most := by omega
    simp [plainB, e1, e2]
  go_enter Tryz.func78, Tryz.ntmps78
  go_wp2
  go_loop [7, 8, 20] (fun _ _ i => ∃ k : Nat, k ≤ s.size ∧ i = .int .i64 k ∧ (s.data.toList.take k).all (okM mk.data.toList) = true) (fun _ _ i => s.size - (intOf i).toNat)
  case atStart => exact ⟨0, Nat.zero_le _, rfl, by simp⟩
  case round =>
    obtain ⟨k, hk, rfl, hok⟩ := hrel
    have HOK : Hid ((s.data.toList.take k).all (okM mk.data.toList) = true) := hok
    clear hok
    by_cases hlt : k < s.size
    · have hsn := all_take_succ (f := okM mk.data.toList) hlt
      rw [HOK.out, Bool.true_and, okM, letter_eq, digit_eq] at hsn
      have HS : Hid ((s.data.toList.take (k + 1)).all (okM mk.data.toList) = (decide (97 ≤ (s[k].toNat : Int) ∧ (s[k].toNat : Int) ≤ 122) || decide (48 ≤ (s[k].toNat : Int) ∧ (s[k].toNat : Int) ≤ 57) || decide (0 ≤ Lib.indexByte mk.data.toList s[k]))) := hsn
      clear hsn
      have HX := fun W => index_any mk s[k] W
      generalize Lib.indexByte mk.data.toList s[k] = ix at *
      have HXX : Hid (∀ W, Calls Tryz.prog 83 #[.string mk, .int .u8 (s[k].toNat : Int)] W fun e w' => e = .returned (.int .i64 ix) ∧ w' = W) := HX
      clear HX
      go_wp2_with (go_at_call 83; refine (HXX.out _).mono ?_; rintro e w' ⟨rfl, rfl⟩)
      all_goals first
        | (go_ret
           refine ⟨ret_bool ?_, rfl⟩
           rw [HN.out]
           refine (all_not (k := k + 1) ?_).symm
           rw [HS.out]
           simp at *
           omega)
        | (refine ⟨⟨k + 1, by omega, by go_num, ?_⟩, by simp [intOf]; omega⟩
           rw [HS.out]
           simp at *
           omega)
    · go_wp2
      go_ret
      exact ⟨ret_bool (by rw [HN.out, ← HOK.out, List.take_of_length_le (by simp; omega)]), rfl⟩
end Go.Proofs.YtboofidegpnkaaaGreatDoor
namespace Go.Proofs.YtboofidegpnkaaaGreatDoor
open Go.RowKit
theorem within_any (x hi : Int) (w : World) : Calls Tryz.prog 44 #[.int .i64 x, .int .i64 hi] w fun e w' => e = .returned (.bool (btwB x 0 hi)) ∧ w' = w := by
  by_cases h1 : 0 ≤ x
  · by_cases h2 : x ≤ hi
    · have e : btwB x 0 hi = true := by simp [btwB, h1, h2]
      rw [e]
      go_enter Tryz.func44, Tryz.ntmps44
      go_wp2
      go_ret
      exact ⟨rfl, rfl⟩
    · have e : btwB x 0 hi = false := by simp [btwB, h2]
      rw [e]
      go_enter Tryz.func44, Tryz.ntmps44
      go_wp2
      go_ret
      exact ⟨rfl, rfl⟩
  · have e : btwB x 0 hi = false := by simp [btwB, h1]
    rw [e]
    go_enter Tryz.func44, Tryz.ntmps44
    go_wp2
    go_ret
    exact ⟨rfl, rfl⟩
def okByte (c : UInt8) : Bool := (97 ≤ c && c ≤ 122) || (48 ≤ c && c ≤ 57) || c == 45 || c == 46
def okBytes (l : List UInt8) : Bool := l.all okByte
def nameB (s : ByteArray) : Bool := decide (1 ≤ s.size) && decide (s.size ≤ 40) && okBytes s.data.toList
theorem okBytes_snoc (l : List UInt8) (c : UInt8) : okBytes (l ++ [c]) = (okBytes l && okByte c) := by simp [okBytes]
theorem okBytes_not {l : List UInt8} {k : Nat} (h : okBytes (l.take k) = false) : okBytes l = false := by
  rw [Bool.eq_false_iff] at h ⊢
  intro h'
  apply h
  simp only [okBytes, List.all_eq_true] at h' ⊢
  intro x hx
  exact h' x (List.mem_of_mem_take hx)
theorem okByte_eq (c : UInt8) : okByte c = decide ((97 ≤ (c.toNat : Int) ∧ (c.toNat : Int) ≤ 122) ∨ (48 ≤ (c.toNat : Int) ∧ (c.toNat : Int) ≤ 57) ∨ (c.toNat : Int) = 45 ∨ (c.toNat : Int) = 46) := by
  have e45 : (c == 45) = decide (c.toNat = 45) := by rw [Bool.eq_iff_iff]; simp [← UInt8.toNat_inj]
  have e46 : (c == 46) = decide (c.toNat = 46) := by rw [Bool.eq_iff_iff]; simp [← UInt8.toNat_inj]
  rw [Bool.eq_iff_iff]
  simp [okByte, e45, e46, UInt8.le_iff_toNat_le]
  omega
set_option maxHeartbeats 1000000 in
theorem l1FileName_any (s : ByteArray) (w : World) (hs : s.size ≤ maxLen) :
    Calls Tryz.prog 34 #[.string s] w fun e w' => e = .returned (.bool (nameB s)) ∧ w' = w := by
  unfold maxLen at hs
  by_cases h1 : 1 ≤ s.size ∧ s.size ≤ 40
  · have hB : btwB (s.size : Int) 1 40 = true := by unfold btwB; simp; omega
    have HN : Hid (nameB s = okBytes s.data.toList) := by show nameB s = _; simp [nameB, h1.1, h1.2]
    have hl := h1.1
    have hu := h1.2
    clear h1
    go_enter Tryz.func34, Tryz.ntmps34
    go_wp2_with (go_at_call 16; refine (between_any _ _ _ _).mono ?_; rintro e w' ⟨rfl, rfl⟩)
    go_loop [3, 4] (fun i _ => ∃ k : Nat, k ≤ s.size ∧ i = .int .i64 k ∧ okBytes (s.data.toList.take k) = true) (fun i _ => s.size - (intOf i).toNat)
    case atStart => exact ⟨0, Nat.zero_le _, rfl, by simp [okBytes]⟩
    case round =>
      obtain ⟨k, hk, rfl, hok⟩ := hrel
      have HOK : Hid (okBytes (s.data.toList.take k) = true) := hok
      clear hok hB
      by_cases hlt : k < s.size
      · have hsn := okBytes_snoc (s.data.toList.take k) s[k]
        rw [← take_snoc s k hlt, HOK.out, Bool.true_and, okByte_eq] at hsn
        have HS : Hid (okBytes (s.data.toList.take (k + 1)) = decide ((97 ≤ (s[k].toNat : Int) ∧ (s[k].toNat : Int) ≤ 122) ∨ (48 ≤ (s[k].toNat : Int) ∧ (s[k].toNat : Int) ≤ 57) ∨ (s[k].toNat : Int) = 45 ∨ (s[k].toNat : Int) = 46)) := hsn
        clear hsn
        go_wp2
        all_goals first
          | (go_ret
             refine ⟨ret_bool ?_, rfl⟩
             rw [HN.out]
             refine (okBytes_not (k := k + 1) ?_).symm
             rw [HS.out, decide_eq_false_iff_not]
             simp at *
             omega)
          | (refine ⟨⟨k + 1, by omega, by go_num, ?_⟩, by simp [intOf]; omega⟩
             rw [HS.out, decide_eq_true_iff]
             simp at *
             omega)
      · go_wp2
        go_ret
        exact ⟨ret_bool (by rw [HN.out, ← HOK.out, List.take_of_length_le (by simp; omega)]), rfl⟩
  · have hB : btwB (s.size : Int) 1 40 = false := by unfold btwB; simp; omega
    have HN : Hid (nameB s = false) := by show nameB s = _; simp [nameB]; omega
    go_enter Tryz.func34, Tryz.ntmps34
    go_wp2_with (go_at_call 16; refine (between_any _ _ _ _).mono ?_; rintro e w' ⟨rfl, rfl⟩)
    go_ret
    exact ⟨ret_bool HN.out.symm, rfl⟩
theorem okByte_plain (c : UInt8) : okM [45, 46] c = okByte c := by
  have e : decide (0 ≤ Lib.indexByte [45, 46] c) = (c == 45 || c == 46) := by
    by_cases h : c = 45
    · subst h; rfl
    · by_cases h' : c = 46
      · subst h'; rfl
      · have h1 : ((45 : UInt8) == c) = false := by simpa using fun e => h e.symm
        have h2 : (c == 45) = false := by simpa using h
        have h3 : ((46 : UInt8) == c) = false := by simpa using fun e => h' e.symm
        have h4 : (c == 46) = false := by simpa using h'
        simp [Lib.indexByte, h1, h2, h3, h4]
  rw [okM, okByte, e, Bool.or_assoc (_ || _)]
theorem name_plain (s : ByteArray) : plainB s 40 ⟨#[45, 46]⟩ = nameB s := by
  have e : okM [45, 46] = okByte := funext okByte_plain
  rw [plainB, nameB, okBytes, e]
  congr 2
  rw [Bool.eq_iff_iff]; simp; omega
set_option maxRecDepth 100000 in
set_option maxHeartbeats 1000000 in
theorem isFileName_any (s : ByteArray) (w : World) (hs : s.size ≤ maxLen) :
    Calls Tryz.prog 70 #[.string s] w fun e w' => e = .returned (.bool (nameB s)) ∧ w' = w := by
  have H : Hid (∀ W, Calls Tryz.prog 78 #[.string s, .int .i64 40, .string ⟨#[45, 46]⟩] W fun e w' => e = .returned (.bool (nameB s)) ∧ w' = W) := fun W => name_plain s ▸ isPlain_any s 40 ⟨#[45, 46]⟩ W hs
  generalize nameB s = R at *
  go_enter Tryz.func70, Tryz.ntmps70
  go_wp2_with fail
  refine (H.out _).mono ?_
  rintro e w' ⟨rfl, hw⟩
  replace hw := hw.symm
  subst hw
  go_wp2
  go_ret
  exact ⟨rfl, rfl⟩
def fileB (f : FileD) : Bool := nameB f.name && btwB f.synced 0 f.data.size
set_option maxHeartbeats 1000000 in
theorem valid_any (b o : Nat) (f : FileD) (w : World) (c0 : w.cell? ⟨b, o, none⟩ = some (.string f.name)) (c1 : w.cell? ⟨b, o + 1, none⟩ = some (.string f.data)) (c2 : w.cell? ⟨b, o + 2, none⟩ = some (.int .i64 f.synced))
    (hn : f.name.size ≤ maxLen) :
    Calls Tryz.prog 58 #[.pointer (some ⟨b, o, none⟩)] w fun e w' => e = .returned (.bool (fileB f)) ∧ Below w.heap.size w w' := by
  have d0 := Later.cells c0
  have d1 := Later.cells c1
  have d2 := Later.cells c2
  have hne := Later.there w
  have hA := fun w' => isFileName_any f.name w' hn
  clear c0 c1 c2 hn
  by_cases h1 : nameB f.name = true
  · simp only [h1] at hA
    have hB := fun w' => within_any f.synced f.data.size w'
    have E : Hid (fileB f = btwB f.synced 0 f.data.size) := by show fileB f = _; simp [fileB, h1]
    clear h1
    go_enter Tryz.func58, Tryz.ntmps58
    go_wp2_with fail
    refine wp_region_later (by kernel_rfl) (by kernel_rfl) ?_
    repeat (go_big_quiet_step (first | (go_at_call 70; exact calls_later_same (hA _)) | (go_at_call 44; exact calls_later_same (hB _))))
    refine wpQuiet_nil ?_
    rintro _ ⟨x, rfl⟩
    go_wp2
    go_ret
    exact ⟨ret_bool E.out.symm, x.h⟩
  · have h1' : nameB f.name = false := by simpa using h1
    simp only [h1'] at hA
    have E : Hid (fileB f = false) := by show fileB f = _; simp [fileB, h1']
    clear h1 h1'
    go_enter Tryz.func58, Tryz.ntmps58
    go_wp2_with fail
    refine wp_region_later (by kernel_rfl) (by kernel_rfl) ?_
    repeat (go_big_quiet_step (first | (go_at_call 70; exact calls_later_same (hA _))))
    refine wpQuiet_nil ?_
    rintro _ ⟨x, rfl⟩
    go_wp2
    go_ret
    exact ⟨ret_bool E.out.symm, x.h⟩
end Go.Proofs.YtboofidegpnkaaaGreatDoor
namespace Go.Proofs.YtboofidegpnkaaaGreatDoor
open Go.RowKit
def okAt (fs : List FileD) (i : Nat) : Bool :=
  match fs[i]? with
  | none => true
  | some f => fileB f && (match i with
    | 0 => true
    | j + 1 => match fs[j]? with
      | none => true
      | some g => Op.bytesLess g.name.toList f.name.toList)
def okTo (fs : List FileD) (k : Nat) : Bool := (List.range k).all (okAt fs)
def filesB (fs : List FileD) : Bool := okTo fs fs.length
theorem okTo_succ (fs : List FileD) (k : Nat) : okTo fs (k + 1) = (okTo fs k && okAt fs k) := by simp [okTo, List.range_succ]
theorem okTo_not {fs : List FileD} {k n : Nat} (h : okAt fs k = false) (hk : k < n) : okTo fs n = false := by
  rw [Bool.eq_false_iff]
  intro h'
  simp only [okTo, List.all_eq_true, List.mem_range] at h'
  rw [h' k hk] at h; exact absurd h (by simp)
set_option maxHeartbeats 1000000 in
theorem filesValid_any (a : Option Addr) (cap : Nat) (fs : List FileD) (w : World) (hf : FilesIn w a fs) (hs : Short fs) (hlen : fs.length ≤ maxLen) :
    Calls Tryz.prog 43 #[.slice a fs.length cap] w fun e w' => e = .returned (.bool (decide (fs.length ≤ 1000) && filesB fs)) ∧ Below w.heap.size w w' := by
  unfold maxLen at hlen
  by_cases h0 : (1000 : Int) < fs.length
  · have E : Hid ((decide (fs.length ≤ 1000) && filesB fs) = false) := by
      show _ = _
      rw [decide_eq_false (by omega)]; rfl
    clear hf hs
    go_enter Tryz.func43, Tryz.ntmps43
    go_wp2
    go_ret
    exact ⟨ret_bool E.out.symm, Below.refl _ _⟩
  have E : Hid ((decide (fs.length ≤ 1000) && filesB fs) = okTo fs fs.length) := by
    show _ = _
    rw [decide_eq_true (by omega)]; rfl
  have HF : Hid (FilesIn w a fs) := hf
  have HS : Hid (Short fs) := hs
  clear hf hs
  go_enter Tryz.func43, Tryz.ntmps43
  go_wp2
  go_loopw [3, 9] (fun _ i wr => ∃ k : Nat, k ≤ fs.length ∧ i = .int .i64 k ∧ okTo fs k = true ∧ Below w.heap.size w wr) (fun _ i _ => fs.length - (intOf i).toNat)
  case atStart => exact ⟨0, Nat.zero_le _, rfl, rfl, Below.refl _ _⟩
  case round =>
    obtain ⟨k, hk, rfl, hok, hbel⟩ := hrel
    have HOK : Hid (okTo fs k = true) := hok
    clear hok
    by_cases hlt : k < fs.length
    · obtain ⟨b, o, rfl, hb, c0, c1, c2⟩ := (HF.out.later hbel).at hlt
      have hsh := HS.out k hlt
      have hV := fun x : Later wr => valid_any b (o + k * 3) fs[k] x.w' (x.cell c0) (x.cell c1) (x.cell c2) hsh.1
      have d0 := Later.cells c0
      have hne := Later.there wr
      clear c0 c1 c2 hsh
      by_cases hfb : fileB fs[k] = true
      · simp only [hfb] at hV
        by_cases hk0 : (0 : Int) < k
        · obtain ⟨b2, o2, e2, q1, c0', q2, q3⟩ := (HF.out.later hbel).at (i := k - 1) (by omega)
          simp only [Option.some.injEq, Addr.mk.injEq, and_true] at e2
          obtain ⟨rfl, rfl⟩ := e2
          have hat : okAt fs k = Op.bytesLess fs[k - 1].name.toList fs[k].name.toList := by
            obtain ⟨j, rfl⟩ : ∃ j, k = j + 1 := ⟨k - 1, by omega⟩
            simp [okAt, List.getElem?_eq_getElem hlt, List.getElem?_eq_getElem (show j < fs.length by omega), hfb]
          generalize fs[k - 1].name = gn at c0' hat
          generalize fs[k].name = fn at d0 hat
          have d0p := Later.cells c0'
          have hk1 : 0 < k := by omega
          clear q1 q2 q3 c0' hfb
          by_cases hl : Op.bytesLess gn.toList fn.toList = true
          · have HT : Hid (okTo fs (k + 1) = true) := by show okTo fs (k + 1) = true; rw [okTo_succ, HOK.out, hat, hl]; rfl
            clear hat
            go_wp2_with fail
            refine wp_region_later (by kernel_rfl) (by kernel_rfl) ?_
            repeat (go_big_quiet_step (first | (go_at_call 58; exact calls_later (hV _))))
            refine wpQuiet_nil ?_
            rintro _ ⟨x, rfl⟩
            go_wp2
            exact ⟨⟨k + 1, by omega, by go_num, HT.out, hbel.trans (x.h.mono hbel.size)⟩, by simp [intOf]; omega⟩
          · have hl' : Op.bytesLess gn.toList fn.toList = false := by simpa using hl
            have HT : Hid (okTo fs fs.length = false) := okTo_not (by rw [hat]; exact hl') hlt
            clear hat hl
            go_wp2_with fail
            refine wp_region_later (by kernel_rfl) (by kernel_rfl) ?_
            repeat (go_big_quiet_step (first | (go_at_call 58; exact calls_later (hV _))))
            refine wpQuiet_nil ?_
            rintro _ ⟨x, rfl⟩
            go_wp2
            go_ret
            exact ⟨ret_bool (by rw [E.out, HT.out]), hbel.trans (x.h.mono hbel.size)⟩
        · have hat : okAt fs k = true := by
            obtain rfl : k = 0 := by omega
            simp [okAt, List.getElem?_eq_getElem hlt, hfb]
          have HT : Hid (okTo fs (k + 1) = true) := by show okTo fs (k + 1) = true; rw [okTo_succ, HOK.out, hat]; rfl
          have hk1 : decide (0 < k) = false := by simp; omega
          clear hat hfb
          go_wp2_with fail
          refine wp_region_later (by kernel_rfl) (by kernel_rfl) ?_
          repeat (go_big_quiet_step (first | (go_at_call 58; exact calls_later (hV _))))
          refine wpQuiet_nil ?_
          rintro _ ⟨x, rfl⟩
          go_wp2
          exact ⟨⟨k + 1, by omega, by go_num, HT.out, hbel.trans (x.h.mono hbel.size)⟩, by simp [intOf]; omega⟩
      · have hfb' : fileB fs[k] = false := by simpa using hfb
        simp only [hfb'] at hV
        have hat : okAt fs k = false := by simp [okAt, List.getElem?_eq_getElem hlt, hfb']
        have HT : Hid (okTo fs fs.length = false) := okTo_not hat hlt
        clear hat hfb hfb'
        go_wp2_with fail
        refine wp_region_later (by kernel_rfl) (by kernel_rfl) ?_
        repeat (go_big_quiet_step (first | (go_at_call 58; exact calls_later (hV _))))
        refine wpQuiet_nil ?_
        rintro _ ⟨x, rfl⟩
        go_wp2
        go_ret
        exact ⟨ret_bool (by rw [E.out, HT.out]), hbel.trans (x.h.mono hbel.size)⟩
    · go_wp2
      go_ret
      have e : k = fs.length := by omega
      exact ⟨ret_bool (by rw [E.out, ← e]; exact HOK.out.symm), hbel⟩
end Go.Proofs.YtboofidegpnkaaaGreatDoor
namespace Go.Proofs.YtboofidegpnkaaaGreatDoor
open Go.RowKit
def cmpZ (x y : ByteArray) : Int := if Op.bytesLess x.toList y.toList = true then -1 else if (x.toList == y.toList) = true then 0 else 1
set_option maxHeartbeats 400000 in
theorem isNaN_any (s : ByteArray) (w : World) : Calls Tryz.prog 81 #[.string s] w fun e w' => e = .returned (.bool false) ∧ w' = w := by
  go_enter Tryz.func81, Tryz.ntmps81
  go_wp2
  go_ret
  exact ⟨rfl, rfl⟩
set_option maxHeartbeats 400000 in
theorem compare_any (x y : ByteArray) (w : World) : Calls Tryz.prog 74 #[.string x, .string y] w fun e w' => e = .returned (.int .i64 (cmpZ x y)) ∧ w' = w := by
  by_cases h1 : Op.bytesLess x.toList y.toList = true
  · have E : Hid (cmpZ x y = -1) := by show _ = _; simp [cmpZ, h1]
    go_enter Tryz.func74, Tryz.ntmps74
    go_wp2_with (first | (go_at_call 81; refine (isNaN_any _ _).mono ?_; rintro e w' ⟨rfl, rfl⟩))
    go_ret
    exact ⟨ret_int E.out.symm, rfl⟩
  have h1' : Op.bytesLess x.toList y.toList = false := by simpa using h1
  by_cases h2 : (x.toList == y.toList) = true
  · have E : Hid (cmpZ x y = 0) := by show _ = _; simp [cmpZ, h1', h2]
    clear h1
    go_enter Tryz.func74, Tryz.ntmps74
    go_wp2_with (first | (go_at_call 81; refine (isNaN_any _ _).mono ?_; rintro e w' ⟨rfl, rfl⟩))
    go_ret
    exact ⟨ret_int E.out.symm, rfl⟩
  have h2' : (x.toList == y.toList) = false := by simpa using h2
  have E : Hid (cmpZ x y = 1) := by show _ = _; simp only [cmpZ, h1', h2']; rfl
  clear h1 h2
  go_enter Tryz.func74, Tryz.ntmps74
  go_wp2_with (first | (go_at_call 81; refine (isNaN_any _ _).mono ?_; rintro e w' ⟨rfl, rfl⟩))
  go_ret
  exact ⟨ret_int E.out.symm, rfl⟩
end Go.Proofs.YtboofidegpnkaaaGreatDoor
namespace Go.Proofs.YtboofidegpnkaaaGreatDoor
open Go.RowKit
set_option maxHeartbeats 400000 in
theorem findFn_any (nm da : ByteArray) (sy : Int) (t : ByteArray) (w : World) : Calls Tryz.prog 73 #[.agg #[.string nm, .string da, .int .i64 sy], .string t] w fun e w' => e = .returned (.int .i64 (cmpZ nm t)) ∧ Below w.heap.size w w' := by
  go_enter Tryz.func73, Tryz.ntmps73
  go_wp2_with (first | (go_at_call 74; refine (compare_any _ _ _).mono ?_; rintro e w' ⟨rfl, rfl⟩))
  go_ret
  exact ⟨rfl, bnew _ _⟩
end Go.Proofs.YtboofidegpnkaaaGreatDoor
namespace Go.Proofs.YtboofidegpnkaaaGreatDoor
theorem less_irrefl : ∀ x : List UInt8, Op.bytesLess x x = false
  | [] => rfl
  | a :: x => by simp [Op.bytesLess, less_irrefl x]
theorem less_trans : ∀ x y z : List UInt8, Op.bytesLess x y = true → Op.bytesLess y z = true → Op.bytesLess x z = true
  | _, _, [], _, h => by simp [Op.bytesLess] at h
  | _, [], _ :: _, h, _ => by simp [Op.bytesLess] at h
  | [], _ :: _, _ :: _, _, _ => by simp [Op.bytesLess]
  | a :: x, b :: y, c :: z, h1, h2 => by
    simp only [Op.bytesLess, Bool.or_eq_true, Bool.and_eq_true, decide_eq_true_eq, beq_iff_eq] at h1 h2 ⊢
    rcases h1 with h1 | ⟨rfl, h1⟩
    · rcases h2 with h2 | ⟨rfl, _⟩
      · exact Or.inl (UInt8.lt_trans h1 h2)
      · exact Or.inl h1
    · rcases h2 with h2 | ⟨rfl, h2⟩
      · exact Or.inl h2
      · exact Or.inr ⟨rfl, less_trans x y z h1 h2⟩
theorem less_total : ∀ x y : List UInt8, Op.bytesLess x y = false → x ≠ y → Op.bytesLess y x = true
  | [], [], _, h => absurd rfl h
  | [], _ :: _, h, _ => by simp [Op.bytesLess] at h
  | _ :: _, [], _, _ => by simp [Op.bytesLess]
  | a :: x, b :: y, h, hne => by
    simp only [Op.bytesLess, Bool.or_eq_false_iff, Bool.and_eq_false_iff, decide_eq_false_iff_not, Bool.or_eq_true, Bool.and_eq_true, decide_eq_true_eq, beq_iff_eq] at h ⊢
    obtain ⟨h1, h2⟩ := h
    by_cases e : a = b
    · subst e
      rcases h2 with h2 | h2
      · simp at h2
      · exact Or.inr ⟨rfl, less_total x y h2 (fun e => hne (by rw [e]))⟩
    · left
      rcases UInt8.lt_or_lt_of_ne e with h | h
      · exact absurd h h1
      · exact h
theorem less_asymm {x y : List UInt8} (h : Op.bytesLess x y = true) : Op.bytesLess y x = false := by
  rw [Bool.eq_false_iff]
  intro h'
  have := less_trans x y x h h'
  rw [less_irrefl] at this
  exact absurd this (by simp)
theorem toList_inj {x y : ByteArray} (h : x.toList = y.toList) : x = y := by
  have h' : x.data.toList = y.data.toList := by rw [← ByteArray.toList_eq x, ← ByteArray.toList_eq y]; exact h
  cases x; cases y
  simp only [ByteArray.mk.injEq]
  exact Array.toList_inj.1 h'
end Go.Proofs.YtboofidegpnkaaaGreatDoor
