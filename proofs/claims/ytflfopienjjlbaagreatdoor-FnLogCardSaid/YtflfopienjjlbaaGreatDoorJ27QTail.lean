import Derived.Test.YtflfopienjjlbaaGreatDoorProg
import Derived.Test.YtflfopienjjlbaaGreatDoorJ19SWith
import Derived.Test.YtflfopienjjlbaaGreatDoorJ17IFrame
import Derived.Test.YtflfopienjjlbaaGreatDoorJ26SStep5
import Derived.Test.YtflfopienjjlbaaGreatDoorJ11IFrames
import Derived.Test.YtflfopienjjlbaaGreatDoorJ03Btw
import Derived.Test.YtflfopienjjlbaaGreatDoorJ08Find
import Derived.Test.YtflfopienjjlbaaGreatDoorJ06Valid
import Derived.Test.YtflfopienjjlbaaGreatDoorJ01Drive
import Derived.StillTail
namespace Go.Proofs.YtflfopienjjlbaaGreatDoor
open Go.RowKit

theorem apart_cells {w : World} {a : Option Addr} {fs : List FileD} {P : Nat} {cs : Array Value} {t : TypeId} (h : FilesIn w a fs) (hz : Blk w P cs t) (hn : ∀ (j : Nat) (s : ByteArray), cs[j]? ≠ some (Value.string s)) : Apart a fs P := by
  rcases h with h | ⟨b, o, e, _, h⟩
  · exact Or.inl h
  · by_cases hn' : fs = []
    · exact Or.inl hn'
    · refine Or.inr ⟨b, o, e, fun hb => ?_⟩
      subst hb
      have hl : 0 < fs.length := List.length_pos_iff.2 hn'
      have h0 := (h 0 hl).1
      rw [hz.cell] at h0
      exact hn _ _ h0
theorem apart_disk {w : World} {a : Option Addr} {fs : List FileD} {P : Nat} {x : Option Addr} {n cp : Nat} {i1 i2 i3 i4 : Int} {k1 k2 k3 k4 : IntKind} {b : Bool} {t : TypeId} (h : FilesIn w a fs) (hz : Blk w P #[.slice x n cp, .int k1 i1, .int k2 i2, .int k3 i3, .int k4 i4, .bool b] t) : Apart a fs P :=
  apart_cells h hz fun j _ => by
    match j with
    | 0 => simp
    | 1 => simp
    | 2 => simp
    | 3 => simp
    | 4 => simp
    | 5 => simp
    | n + 6 => simp
theorem apart_log {w : World} {a : Option Addr} {fs : List FileD} {P : Nat} {i1 i2 i3 : Int} {k1 k2 k3 : IntKind} {t : TypeId} (h : FilesIn w a fs) (hz : Blk w P #[.int k1 i1, .int k2 i2, .int k3 i3] t) : Apart a fs P :=
  apart_cells h hz fun j _ => by
    match j with
    | 0 => simp
    | 1 => simp
    | 2 => simp
    | n + 3 => simp
theorem Blk.three {w : World} {b : Nat} {v0 v1 v2 : Value} {t : TypeId} (h : Blk w b #[v0, v1, v2] t) : w.cell? ⟨b, 0, none⟩ = some v0 ∧ w.cell? ⟨b, 1, none⟩ = some v1 ∧ w.cell? ⟨b, 2, none⟩ = some v2 := by
  simp [h.cell]

theorem fourBoxes {w w1 : World} {x y z u : Array Value} {tx ty tz tu : TypeId} (hb : Below ((((w.alloc (.cells x tx)).alloc (.cells y ty)).alloc (.cells z tz)).alloc (.cells u tu)).heap.size ((((w.alloc (.cells x tx)).alloc (.cells y ty)).alloc (.cells z tz)).alloc (.cells u tu)) w1) :
    Blk w1 w.heap.size x tx ∧ Blk w1 (w.heap.size + 1) y ty ∧ Blk w1 (w.heap.size + 1 + 1) z tz ∧ Blk w1 (w.heap.size + 1 + 1 + 1) u tu ∧ Below w.heap.size w w1 := by
  refine ⟨?_, ?_, ?_, ?_, bto (bto (bto (bto (bnew _ _) (bnew _ _)) (bnew _ _)) (bnew _ _)) hb⟩
  · exact ((((blk_new w x tx).later (bnew _ _)).later (bnew _ _)).later (bnew _ _)).later hb
  · have h := (((blk_new (w.alloc (.cells x tx)) y ty).later (bnew _ (.cells z tz))).later (bnew _ (.cells u tu))).later hb
    simpa using h
  · have h := ((blk_new ((w.alloc (.cells x tx)).alloc (.cells y ty)) z tz).later (bnew _ (.cells u tu))).later hb
    simpa using h
  · have h := (blk_new (((w.alloc (.cells x tx)).alloc (.cells y ty)).alloc (.cells z tz)) u tu).later hb
    simpa using h

/-- The spec's DiskStep takes this disk to that one. -/
def StepTo (D : DiskD) (op : OpD) (D' : DiskD) (code : Nat) : Prop :=
  ∀ a cap W, FilesIn W a D.fs → Calls Tryz.prog 27 #[.agg #[.slice a D.fs.length cap, .int .i64 D.c, .int .i64 D.k, .int .i64 D.cr, .int .i64 D.fl, .bool D.dn], .agg #[.int .i64 op.kind, .string op.name, .string op.to, .string op.data, .int .i64 op.size]] W fun e w' =>
    ∃ a' cap', e = .returned (.tuple #[.agg #[.slice a' D'.fs.length cap', .int .i64 D'.c, .int .i64 D'.k, .int .i64 D'.cr, .int .i64 D'.fl, .bool D'.dn], .int .i64 code]) ∧ FilesIn w' a' D'.fs ∧ Below W.heap.size W w'

theorem stepTo {D : DiskD} {op : OpD} (h : Fit D.fs) (hn : op.name.size ≤ maxLen) (ht : op.to.size ≤ maxLen) (hd : op.data.size ≤ 1048576) : StepTo D op (stepD D op).1 (stepD D op).2 := fun a cap W hf =>
  specStep_any W a cap D.fs D.c D.k D.cr D.fl D.dn op ⟨hf, h.short, h.len, h.sum, hn, ht, hd⟩
end Go.Proofs.YtflfopienjjlbaaGreatDoor

namespace Go.Proofs.YtflfopienjjlbaaGreatDoor
open Go.RowKit

set_option maxRecDepth 100000 in
set_option maxHeartbeats 1000000 in
theorem specSeg_any (n : Int) (w : World) :
    Calls Tryz.prog 28 #[.int .i64 n] w fun e w' => e = .returned (.string (segS n)) ∧ Below w.heap.size w w' := by
  by_cases h : 1 ≤ n ∧ n ≤ 999999
  · have hB : btwB n 1 999999 = true := by unfold btwB; simp; omega
    have E : Hid (segS n = segN n.toNat) := if_pos h
    obtain ⟨N, rfl⟩ := Int.eq_ofNat_of_zero_le (show 0 ≤ n by omega)
    have hN : N ≤ 999999 := by omega
    have hcv := conv_one
    clear h
    go_enter Tryz.func28, Tryz.ntmps28
    go_wp2_with (go_at_call 55; refine (between_any _ _ _ _).mono ?_; rintro e w' ⟨rfl, hw⟩; replace hw := hw.symm; subst hw)
    go_loopw [0, 3, 4] (fun m s i wr => ∃ (j M : Nat) (st : ByteArray), j ≤ 6 ∧ i = .int .i64 j ∧ m = .int .i64 M ∧ s = .string st ∧ Hid (M = N / 10 ^ j) ∧ M ≤ 999999 ∧ st.size = j ∧ Hid (st.data.toList = segD N j) ∧ Below w.heap.size w wr) (fun _ _ i _ => 6 - (intOf i).toNat)
    case atStart => exact ⟨0, N, ByteArray.empty, by omega, rfl, rfl, rfl, by show _ = _; simp, hN, rfl, rfl, Below.refl _ _⟩
    case round =>
      obtain ⟨j, M, st, hj, rfl, rfl, rfl, hM, hM2, hsz, hst, hbel⟩ := hrel
      by_cases hlt : j < 6
      · go_wp2
        refine ⟨⟨j + 1, M / 10, _, by omega, by go_num, by go_num, rfl, ?_, by omega, ?_, ?_, bto hbel (bnew _ _)⟩, by simp [intOf]; omega⟩
        · show _ = _
          rw [hM.out, Nat.div_div_eq_div_mul, Nat.pow_succ]
        · rw [str_one_size, hsz]
        · show _ = _
          rw [str_one, hst.out, segD, hM.out]
      · go_wp2
        go_ret
        have e : j = 6 := by omega
        subst e
        refine ⟨congrArg (fun x => Ending.returned (.string x)) ?_, hbel⟩
        rw [E.out, segN]
        refine mk_toList _ _ ?_
        rw [Int.toNat_natCast, ← hst.out]
        simp
  · have hB : btwB n 1 999999 = false := by unfold btwB; simp; omega
    have E : Hid (segS n = ByteArray.empty) := if_neg h
    go_enter Tryz.func28, Tryz.ntmps28
    go_wp2_with (go_at_call 55; refine (between_any _ _ _ _).mono ?_; rintro e w' ⟨rfl, hw⟩; replace hw := hw.symm; subst hw)
    go_ret
    exact ⟨congrArg (fun x => Ending.returned (.string x)) E.out.symm, Below.refl _ _⟩
end Go.Proofs.YtflfopienjjlbaaGreatDoor

namespace Go.Proofs.YtflfopienjjlbaaGreatDoor
open Go.RowKit

theorem all_sect {s : ByteArray} {k : Nat} (hk : k ≤ 6) (h : (sectL s 4 6).all isDig = true) : (sectL s 4 k).all isDig = true := by
  rw [List.all_eq_true] at h ⊢
  intro x hx
  refine h x ?_
  have e : sectL s 4 k = (sectL s 4 6).take k := by rw [sectL, sectL, List.take_take, Nat.min_eq_left hk]
  rw [e] at hx
  exact List.mem_of_mem_take hx

theorem wal_list : (⟨#[119, 97, 108, 45]⟩ : ByteArray).toList = [119, 97, 108, 45] := by rw [ByteArray.toList_eq]

set_option maxRecDepth 100000 in
set_option maxHeartbeats 1000000 in
theorem specSegOf_any (s : ByteArray) (w : World) (hs : s.size ≤ maxLen) :
    Calls Tryz.prog 26 #[.string s] w fun e w' => e = .returned (.int .i64 (segOf s : Nat)) ∧ w' = w := by
  unfold maxLen at hs
  by_cases h1 : s.size = 10
  · have h1b : ((s.size : Int) != 10) = false := by simp [h1]
    have hz : s.size ≤ 10 ∧ 10 ≤ s.size := by omega
    obtain ⟨hz1, hz2⟩ := hz
    by_cases h2 : s.extract 0 4 = ⟨#[119, 97, 108, 45]⟩
    · have h2b : ((s.extract 0 4).toList == [119, 97, 108, 45]) = true := by rw [h2, wal_list]; rfl
      have E : Hid (segOf s = if (sectL s 4 6).all isDig = true then decL (sectL s 4 6) else 0) := by show _ = _; unfold segOf; simp [h1, h2]
      clear h1 h2
      go_enter Tryz.func26, Tryz.ntmps26
      go_wp2
      go_loop [3, 4] (fun v i => ∃ (m V : Nat), m ≤ 6 ∧ i = .int .i64 ((4 + m : Nat) : Int) ∧ v = .int .i64 V ∧ V < 10 ^ m ∧ Hid (V = decL (sectL s 4 m) ∧ (sectL s 4 m).all isDig = true)) (fun _ i => 10 - (intOf i).toNat)
      case atStart => exact ⟨0, 0, by omega, rfl, rfl, by simp, ⟨rfl, rfl⟩⟩
      case round =>
        obtain ⟨m, V, hm, rfl, rfl, hV, hD⟩ := hrel
        have hV6 : V < 1000000 := Nat.lt_of_lt_of_le hV (Nat.pow_le_pow_right (n := 10) (by omega) hm)
        by_cases hlt : m < 6
        · have hi : 4 + m < s.size := by omega
          have hU : s[4 + m].toNat < 256 := s[4 + m].toNat_lt
          have HSN : Hid (sectL s 4 (m + 1) = sectL s 4 m ++ [s[4 + m]]) := sectL_snoc hi
          have HNO : Hid (¬ (48 ≤ s[4 + m].toNat ∧ s[4 + m].toNat ≤ 57) → segOf s = 0) := fun hno => by
            rw [E.out, if_neg (fun h => ?_)]
            have h6 := all_sect (k := m + 1) (by omega) h
            rw [HSN.out, List.all_append] at h6
            simp [isDig] at h6
            omega
          by_cases hc1 : (s[4 + m].toNat : Int) < 48
          · go_wp2
            go_ret
            exact ⟨ret_int (by rw [HNO.out (by omega)]; rfl), rfl⟩
          · by_cases hc2 : (57 : Int) < (s[4 + m].toNat : Int)
            · go_wp2
              go_ret
              exact ⟨ret_int (by rw [HNO.out (by omega)]; rfl), rfl⟩
            · go_wp2
              have h3 := hD.out.1
              refine ⟨⟨m + 1, V * 10 + (s[4 + m].toNat - 48), by omega, by go_num, ?_, ?_, ?_, ?_⟩, by simp [intOf]; omega⟩
              · congr 1
                omega
              · rw [Nat.pow_succ]; omega
              · rw [HSN.out, decL_snoc, ← h3]
              · rw [HSN.out, List.all_append, hD.out.2]
                simp [isDig]
                omega
        · go_wp2
          go_ret
          have e : m = 6 := by omega
          subst e
          exact ⟨ret_int (by rw [E.out, if_pos hD.out.2, ← hD.out.1]), rfl⟩
    · have h2b : ((s.extract 0 4).toList == [119, 97, 108, 45]) = false := by
        rw [← Bool.not_eq_true]
        intro h
        exact h2 (toList_inj (by rw [wal_list]; simpa using h))
      have E : Hid (segOf s = 0) := by show _ = _; unfold segOf; rw [if_neg (fun h => h2 h.2.1)]
      clear h1 h2
      go_enter Tryz.func26, Tryz.ntmps26
      go_wp2
      go_ret
      exact ⟨ret_int (by rw [E.out]; rfl), rfl⟩
  · have h1b : ((s.size : Int) != 10) = true := by simp; omega
    have E : Hid (segOf s = 0) := by show _ = _; unfold segOf; rw [if_neg (fun h => h1 h.1)]
    go_enter Tryz.func26, Tryz.ntmps26
    go_wp2
    go_ret
    exact ⟨ret_int (by rw [E.out]; rfl), rfl⟩
end Go.Proofs.YtflfopienjjlbaaGreatDoor

namespace Go.Proofs.YtflfopienjjlbaaGreatDoor
open Go.RowKit

theorem findFrom_spec (t : ByteArray) : ∀ (fs : List FileD) (k : Nat), findFrom t fs k = -1 ∨ ∃ i, i < fs.length ∧ findFrom t fs k = (k + i : Nat)
  | [], _ => Or.inl rfl
  | f :: r, k => by
    rw [findFrom]
    split
    · exact Or.inr ⟨0, by simp, by simp⟩
    · rcases findFrom_spec t r (k + 1) with h | ⟨i, hi, h⟩
      · exact Or.inl h
      · exact Or.inr ⟨i + 1, by simp; omega, by rw [h]; omega⟩

def readOut (fs : List FileD) (dB dn : Bool) (t : ByteArray) : ByteArray × Bool :=
  if dB = true ∧ dn = false then (match (if 0 ≤ findFrom t fs 0 then fs[(findFrom t fs 0).toNat]? else none) with
    | some f => (f.data, true)
    | none => (ByteArray.empty, false)) else (ByteArray.empty, false)



set_option maxHeartbeats 2000000 in
theorem specRead_any (a : Option Addr) (cap : Nat) (fs : List FileD) (c k cr fl : Int) (dn : Bool) (t : ByteArray) (w : World) (hf : FilesIn w a fs) (hs : Short fs) (hlen : fs.length ≤ maxLen) (hsum : sumLen fs ≤ 1000000000) :
    Calls Tryz.prog 29 #[.agg #[.slice a fs.length cap, .int .i64 c, .int .i64 k, .int .i64 cr, .int .i64 fl, .bool dn], .string t] w fun e w' =>
      e = .returned (.tuple #[.string (readOut fs (diskB fs c k cr fl) dn t).1, .bool (readOut fs (diskB fs c k cr fl) dn t).2]) ∧ Below w.heap.size w w' := by
  have HF : Hid (FilesIn w a fs) := hf
  have HS : Hid (Short fs) := hs
  have HL : Hid (fs.length ≤ maxLen) := hlen
  have HU : Hid (sumLen fs ≤ 1000000000) := hsum
  unfold maxLen at hlen
  clear hf hs hsum
  obtain ⟨dB, hdB⟩ : ∃ dB, diskB fs c k cr fl = dB := ⟨_, rfl⟩
  have HD : Hid (diskB fs c k cr fl = dB) := hdB
  rw [hdB]
  clear hdB
  obtain ⟨z, hz⟩ : ∃ z, findFrom t fs 0 = z := ⟨_, rfl⟩
  have HZ : Hid (findFrom t fs 0 = z) := hz
  have hlf := fun w' h => l1Find_any a cap fs c k cr fl dn t w' h HL.out
  rw [hz] at hlf
  have HLF : Hid (∀ w', FilesIn w' a fs → Calls Tryz.prog 31 #[.agg #[.slice a fs.length cap, .int .i64 c, .int .i64 k, .int .i64 cr, .int .i64 fl, .bool dn], .string t] w' fun e w'' => e = .returned (.int .i64 z) ∧ Below w'.heap.size w' w'') := hlf
  clear hlf hz
  by_cases h1 : dB = false
  · subst h1
    have E : Hid (readOut fs false dn t = (ByteArray.empty, false)) := by show _ = _; simp [readOut]
    go_enter Tryz.func29, Tryz.ntmps29
    go_wp2_with fail
    refine (HLF.out _ (HF.out.later (bnew _ _))).mono ?_
    rintro e w1 ⟨rfl, hb1⟩
    obtain ⟨x0, x1, x2, x3, x4, x5⟩ := (BoxAt.new w (.slice a fs.length cap) (.int .i64 c) (.int .i64 k) (.int .i64 cr) (.int .i64 fl) (.bool dn) 28).later hb1
    go_wp2_with fail
    refine (specValid_is HD.out _ ((HF.out.later (bnew _ _)).later hb1) HS.out HL.out HU.out).mono ?_
    rintro e w2 ⟨rfl, hb2⟩
    obtain ⟨y0, y1, y2, y3, y4, y5⟩ := ((BoxAt.new w (.slice a fs.length cap) (.int .i64 c) (.int .i64 k) (.int .i64 cr) (.int .i64 fl) (.bool dn) 28).later hb1).later hb2
    have HB : Hid (Below w.heap.size w w2) := bto (bto (bnew _ _) hb1) hb2
    clear x0 x1 x2 x3 x4 x5 hb1 hb2
    go_wp2
    go_ret2
    exact ⟨by rw [E.out]; rfl, HB.out⟩
  obtain rfl : dB = true := by simpa using h1
  clear h1
  by_cases h2 : dn = true
  · subst h2
    have E : Hid (readOut fs true true t = (ByteArray.empty, false)) := by show _ = _; simp [readOut]
    go_enter Tryz.func29, Tryz.ntmps29
    go_wp2_with fail
    refine (HLF.out _ (HF.out.later (bnew _ _))).mono ?_
    rintro e w1 ⟨rfl, hb1⟩
    obtain ⟨x0, x1, x2, x3, x4, x5⟩ := (BoxAt.new w (.slice a fs.length cap) (.int .i64 c) (.int .i64 k) (.int .i64 cr) (.int .i64 fl) (.bool true) 28).later hb1
    go_wp2_with fail
    refine (specValid_is HD.out _ ((HF.out.later (bnew _ _)).later hb1) HS.out HL.out HU.out).mono ?_
    rintro e w2 ⟨rfl, hb2⟩
    obtain ⟨y0, y1, y2, y3, y4, y5⟩ := ((BoxAt.new w (.slice a fs.length cap) (.int .i64 c) (.int .i64 k) (.int .i64 cr) (.int .i64 fl) (.bool true) 28).later hb1).later hb2
    have HB : Hid (Below w.heap.size w w2) := bto (bto (bnew _ _) hb1) hb2
    clear x0 x1 x2 x3 x4 x5 hb1 hb2
    go_wp2
    go_ret2
    exact ⟨by rw [E.out]; rfl, HB.out⟩
  obtain rfl : dn = false := by simpa using h2
  clear h2
  by_cases h3 : z < 0
  · have E : Hid (readOut fs true false t = (ByteArray.empty, false)) := by
      show _ = _
      have e : ¬ 0 ≤ findFrom t fs 0 := by rw [HZ.out]; omega
      simp [readOut, e]
    go_enter Tryz.func29, Tryz.ntmps29
    go_wp2_with fail
    refine (HLF.out _ (HF.out.later (bnew _ _))).mono ?_
    rintro e w1 ⟨rfl, hb1⟩
    obtain ⟨x0, x1, x2, x3, x4, x5⟩ := (BoxAt.new w (.slice a fs.length cap) (.int .i64 c) (.int .i64 k) (.int .i64 cr) (.int .i64 fl) (.bool false) 28).later hb1
    go_wp2_with fail
    refine (specValid_is HD.out _ ((HF.out.later (bnew _ _)).later hb1) HS.out HL.out HU.out).mono ?_
    rintro e w2 ⟨rfl, hb2⟩
    obtain ⟨y0, y1, y2, y3, y4, y5⟩ := ((BoxAt.new w (.slice a fs.length cap) (.int .i64 c) (.int .i64 k) (.int .i64 cr) (.int .i64 fl) (.bool false) 28).later hb1).later hb2
    have HB : Hid (Below w.heap.size w w2) := bto (bto (bnew _ _) hb1) hb2
    clear x0 x1 x2 x3 x4 x5 hb1 hb2
    go_wp2
    go_ret2
    exact ⟨by rw [E.out]; rfl, HB.out⟩
  obtain ⟨i, hi, hzi⟩ : ∃ i, i < fs.length ∧ z = (i : Nat) := by
    rcases findFrom_spec t fs 0 with h | ⟨i, hi, h⟩
    · rw [HZ.out] at h; omega
    · exact ⟨i, hi, by rw [← HZ.out, h]; simp⟩
  subst hzi
  have E : Hid (readOut fs true false t = (fs[i].data, true)) := by
    show _ = _
    have e : 0 ≤ findFrom t fs 0 := by rw [HZ.out]; omega
    have e2 : (findFrom t fs 0).toNat = i := by rw [HZ.out]; simp
    simp [readOut, e, e2, List.getElem?_eq_getElem hi]
  have h4 : ¬ ((i : Int) < 0) := h3
  clear h3
  go_enter Tryz.func29, Tryz.ntmps29
  go_wp2_with fail
  refine (HLF.out _ (HF.out.later (bnew _ _))).mono ?_
  rintro e w1 ⟨rfl, hb1⟩
  obtain ⟨x0, x1, x2, x3, x4, x5⟩ := (BoxAt.new w (.slice a fs.length cap) (.int .i64 c) (.int .i64 k) (.int .i64 cr) (.int .i64 fl) (.bool false) 28).later hb1
  go_wp2_with fail
  refine (specValid_is HD.out _ ((HF.out.later (bnew _ _)).later hb1) HS.out HL.out HU.out).mono ?_
  rintro e w2 ⟨rfl, hb2⟩
  obtain ⟨y0, y1, y2, y3, y4, y5⟩ := ((BoxAt.new w (.slice a fs.length cap) (.int .i64 c) (.int .i64 k) (.int .i64 cr) (.int .i64 fl) (.bool false) 28).later hb1).later hb2
  have HB : Hid (Below w.heap.size w w2) := bto (bto (bnew _ _) hb1) hb2
  obtain ⟨b, o, rfl, hb, c0, c1, c2⟩ := (((HF.out.later (bnew _ _)).later hb1).later hb2).at hi
  clear x0 x1 x2 x3 x4 x5 hb1 hb2
  go_wp2
  go_ret2
  exact ⟨by rw [E.out]; rfl, HB.out⟩
end Go.Proofs.YtflfopienjjlbaaGreatDoor

namespace Go.Proofs.YtflfopienjjlbaaGreatDoor
open Go.RowKit

theorem still_of_quiet {P : Program} {o : Oper} {a : Act} {w : World} {next : Act → Prop} (h : o.quiet P a (fun w' => ∃ _ : Unit, w' = w) next) : o.still P a w next := by
  obtain ⟨v, hq, hn⟩ := h
  have h1 := hq w ⟨(), rfl⟩
  unfold Oper.quietAt at h1
  unfold Oper.still
  generalize (execOp a.eval o).run P w = r at h1
  unfold Oper.quietUpon at h1
  unfold Oper.stillUpon
  split at h1
  · obtain ⟨rfl, rfl⟩ := h1
    exact ⟨rfl, hn⟩
  · obtain ⟨rfl, rfl⟩ := h1
    exact ⟨rfl, hn⟩
  · obtain ⟨rfl, hc⟩ := h1
    exact ⟨rfl, v, hc.mono fun e w'' ⟨he, _, hw⟩ => ⟨he, hw⟩, hn⟩
  · exact h1.elim
theorem wpStill_of_quiet {P : Program} {ops : Array Oper} {w : World} {Q : Act → Prop} : ∀ (l : List Oper) (a : Act), wpQuiet P ops (fun w' => ∃ _ : Unit, w' = w) Q l a → wpStill P ops w Q l a
  | [], a, h => h
  | o :: rest, a, h => by
    unfold wpQuiet at h
    unfold wpStill
    split
    · rename_i hw
      rw [if_pos hw] at h
      exact still_of_quiet (Oper.quiet_mono (fun a' h' => wpStill_of_quiet rest a' h') h)
    · rename_i hw
      rw [if_neg hw] at h
      exact wpStill_of_quiet rest _ h
theorem wp_region_quiet_tail {P : Program} {id : Nat} {Q : Exit → Act → World → Prop} {a : Act} {w : World} {l : List Oper} (n : Nat) (hm : P.follows .mixedOrders = true) (hB : Region.lexTailB .any l.toArray n = true)
    (h : wpQuiet P l.toArray (fun w' => ∃ _ : Unit, w' = w.drew) (fun a' => wpList P l.toArray Q (l.drop n) a' w.drew) (l.take n) a) : (Code.region id l.toArray true).wp P Q a w :=
  wp_region_still_tail n hm hB (wpStill_of_quiet _ _ h)
end Go.Proofs.YtflfopienjjlbaaGreatDoor

