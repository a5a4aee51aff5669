import Derived.Test.YtndaihhjhllfcadGreatDoorProg
import Derived.Test.YtndaihhjhllfcadGreatDoorJ20SStep4
import Derived.Test.YtndaihhjhllfcadGreatDoorJ02Btw
import Derived.Test.YtndaihhjhllfcadGreatDoorJ14SWith
import Derived.Test.YtndaihhjhllfcadGreatDoorJ01Sz
import Derived.Test.YtndaihhjhllfcadGreatDoorJ13SegL
import Derived.Test.YtndaihhjhllfcadGreatDoorJ04Ord
namespace Go.Proofs.YtndaihhjhllfcadGreatDoor
open Go.RowKit

theorem specStep_any (w : World) (a : Option Addr) (cap : Nat) (fs : List FileD) (c k cr fl : Int) (dn : Bool) (op : OpD) (h : Given w a fs op) : Specs w a cap fs c k cr fl dn op := by
  cases hq : diskB fs c k cr fl with
  | false => exact sbad_disk w a cap fs c k cr fl dn op h hq
  | true =>
    by_cases ho : opB op = true
    · by_cases hk : op.kind = 5
      · cases hdn : dn with
        | true => exact sdown5 w a cap fs c k cr fl true op h hq hk ho rfl
        | false =>
          by_cases hm : k = 1000000000000000
          · exact smax5 w a cap fs c k cr fl false op h hq hk ho rfl hm
          by_cases hc : cr = 0
          · by_cases hf : fl = 0
            · exact sdo005 w a cap fs c k cr fl false op h hq hk ho rfl hm hc hf
            by_cases hf2 : k + 1 = fl
            · exact sfl05 w a cap fs c k cr fl false op h hq hk ho rfl hm hc hf hf2
            · exact sdo105 w a cap fs c k cr fl false op h hq hk ho rfl hm hc hf hf2
          by_cases hc2 : k + 1 = cr
          · exact scr5 w a cap fs c k cr fl false op h hq hk ho rfl hm hc hc2
          by_cases hf : fl = 0
          · exact sdo0ne5 w a cap fs c k cr fl false op h hq hk ho rfl hm hc hc2 hf
          by_cases hf2 : k + 1 = fl
          · exact sflne5 w a cap fs c k cr fl false op h hq hk ho rfl hm hc hc2 hf hf2
          · exact sdo1ne5 w a cap fs c k cr fl false op h hq hk ho rfl hm hc hc2 hf hf2
      · cases hdn : dn with
        | true => exact sdown w a cap fs c k cr fl true op h hq hk ho rfl
        | false =>
          by_cases hm : k = 1000000000000000
          · exact smax w a cap fs c k cr fl false op h hq hk ho rfl hm
          by_cases hc : cr = 0
          · by_cases hf : fl = 0
            · exact sdo00 w a cap fs c k cr fl false op h hq hk ho rfl hm hc hf
            by_cases hf2 : k + 1 = fl
            · exact sfl0 w a cap fs c k cr fl false op h hq hk ho rfl hm hc hf hf2
            · exact sdo10 w a cap fs c k cr fl false op h hq hk ho rfl hm hc hf hf2
          by_cases hc2 : k + 1 = cr
          · exact scr w a cap fs c k cr fl false op h hq hk ho rfl hm hc hc2
          by_cases hf : fl = 0
          · exact sdo0ne w a cap fs c k cr fl false op h hq hk ho rfl hm hc hc2 hf
          by_cases hf2 : k + 1 = fl
          · exact sflne w a cap fs c k cr fl false op h hq hk ho rfl hm hc hc2 hf hf2
          · exact sdo1ne w a cap fs c k cr fl false op h hq hk ho rfl hm hc hc2 hf hf2
    · cases hb : btwB op.kind 1 6 with
      | false => exact sbad_kind w a cap fs c k cr fl dn op h hq hb
      | true =>
        cases hn : nameB op.name with
        | false => exact sbad_name w a cap fs c k cr fl dn op h hq hb hn
        | true =>
          have hx : op.kind = 5 ∧ nameB op.to = false := by
            unfold opB at ho
            rw [hb, hn] at ho
            simp at ho
            exact ho
          exact sbad_to w a cap fs c k cr fl dn op h hq hx.1 hn hx.2
end Go.Proofs.YtndaihhjhllfcadGreatDoor

namespace Go.Proofs.YtndaihhjhllfcadGreatDoor
open Go.RowKit

theorem apart_cells {w : World} {a : Option Addr} {fs : List FileD} {P : Nat} {cs : Array Value} {t : TypeId} (h : FilesIn w a fs) (hz : Blk w P cs t) (hn : ∀ (j : Nat) (s : ByteArray), cs[j]? ≠ some (Value.string s)) : Apart a fs P := by
  rcases h with h | ⟨b, o, e, _, h⟩
  · exact Or.inl h
  · by_cases hn' : fs = []
    · exact Or.inl hn'
    · refine Or.inr ⟨b, o, e, fun hb => ?_⟩
      subst hb
      have hl : 0 < fs.length := List.length_pos_iff.2 hn'
      have h0 := (h 0 hl).1
      rw [hz.cell] at h0
      exact hn _ _ h0
theorem apart_disk {w : World} {a : Option Addr} {fs : List FileD} {P : Nat} {x : Option Addr} {n cp : Nat} {i1 i2 i3 i4 : Int} {k1 k2 k3 k4 : IntKind} {b : Bool} {t : TypeId} (h : FilesIn w a fs) (hz : Blk w P #[.slice x n cp, .int k1 i1, .int k2 i2, .int k3 i3, .int k4 i4, .bool b] t) : Apart a fs P :=
  apart_cells h hz fun j _ => by
    match j with
    | 0 => simp
    | 1 => simp
    | 2 => simp
    | 3 => simp
    | 4 => simp
    | 5 => simp
    | n + 6 => simp
theorem apart_log {w : World} {a : Option Addr} {fs : List FileD} {P : Nat} {i1 i2 i3 : Int} {k1 k2 k3 : IntKind} {t : TypeId} (h : FilesIn w a fs) (hz : Blk w P #[.int k1 i1, .int k2 i2, .int k3 i3] t) : Apart a fs P :=
  apart_cells h hz fun j _ => by
    match j with
    | 0 => simp
    | 1 => simp
    | 2 => simp
    | n + 3 => simp
theorem Blk.three {w : World} {b : Nat} {v0 v1 v2 : Value} {t : TypeId} (h : Blk w b #[v0, v1, v2] t) : w.cell? ⟨b, 0, none⟩ = some v0 ∧ w.cell? ⟨b, 1, none⟩ = some v1 ∧ w.cell? ⟨b, 2, none⟩ = some v2 := by
  simp [h.cell]

theorem fourBoxes {w w1 : World} {x y z u : Array Value} {tx ty tz tu : TypeId} (hb : Below ((((w.alloc (.cells x tx)).alloc (.cells y ty)).alloc (.cells z tz)).alloc (.cells u tu)).heap.size ((((w.alloc (.cells x tx)).alloc (.cells y ty)).alloc (.cells z tz)).alloc (.cells u tu)) w1) :
    Blk w1 w.heap.size x tx ∧ Blk w1 (w.heap.size + 1) y ty ∧ Blk w1 (w.heap.size + 1 + 1) z tz ∧ Blk w1 (w.heap.size + 1 + 1 + 1) u tu ∧ Below w.heap.size w w1 := by
  refine ⟨?_, ?_, ?_, ?_, bto (bto (bto (bto (bnew _ _) (bnew _ _)) (bnew _ _)) (bnew _ _)) hb⟩
  · exact ((((blk_new w x tx).later (bnew _ _)).later (bnew _ _)).later (bnew _ _)).later hb
  · have h := (((blk_new (w.alloc (.cells x tx)) y ty).later (bnew _ (.cells z tz))).later (bnew _ (.cells u tu))).later hb
    simpa using h
  · have h := ((blk_new ((w.alloc (.cells x tx)).alloc (.cells y ty)) z tz).later (bnew _ (.cells u tu))).later hb
    simpa using h
  · have h := (blk_new (((w.alloc (.cells x tx)).alloc (.cells y ty)).alloc (.cells z tz)) u tu).later hb
    simpa using h

/-- The spec's DiskStep takes this disk to that one. -/
def StepTo (D : DiskD) (op : OpD) (D' : DiskD) (code : Nat) : Prop :=
  ∀ a cap W, FilesIn W a D.fs → Calls Tryz.prog 26 #[.agg #[.slice a D.fs.length cap, .int .i64 D.c, .int .i64 D.k, .int .i64 D.cr, .int .i64 D.fl, .bool D.dn], .agg #[.int .i64 op.kind, .string op.name, .string op.to, .string op.data, .int .i64 op.size]] W fun e w' =>
    ∃ a' cap', e = .returned (.tuple #[.agg #[.slice a' D'.fs.length cap', .int .i64 D'.c, .int .i64 D'.k, .int .i64 D'.cr, .int .i64 D'.fl, .bool D'.dn], .int .i64 code]) ∧ FilesIn w' a' D'.fs ∧ Below W.heap.size W w'

theorem stepTo {D : DiskD} {op : OpD} (h : Fit D.fs) (hn : op.name.size ≤ maxLen) (ht : op.to.size ≤ maxLen) (hd : op.data.size ≤ 1048576) : StepTo D op (stepD D op).1 (stepD D op).2 := fun a cap W hf =>
  specStep_any W a cap D.fs D.c D.k D.cr D.fl D.dn op ⟨hf, h.short, h.len, h.sum, hn, ht, hd⟩
end Go.Proofs.YtndaihhjhllfcadGreatDoor

namespace Go.Proofs.YtndaihhjhllfcadGreatDoor
open Go.RowKit

theorem btw_is {x lo hi : Int} {b : Bool} (h : btwB x lo hi = b) (w : World) : Calls Tryz.prog 25 #[.int .i64 x, .int .i64 lo, .int .i64 hi] w fun e w' => e = .returned (.bool b) ∧ w' = w := h ▸ between_any x lo hi w

set_option maxRecDepth 100000 in
set_option maxHeartbeats 1000000 in
theorem specLogOK_any (L : LogD) (w : World) :
    Calls Tryz.prog 24 #[.agg #[.int .i64 L.first, .int .i64 L.last, .int .i64 L.size]] w fun e w' => e = .returned (.bool (logB L)) ∧ Below w.heap.size w w' := by
  have HB : Hid (Below w.heap.size w (w.alloc (.cells #[.int .i64 L.first, .int .i64 L.last, .int .i64 L.size] 31))) := bnew _ _
  cases h1 : btwB L.last 1 999999 with
  | false =>
    have E : Hid (logB L = false) := by show _ = _; simp [logB, h1]
    have H1 : Hid (btwB L.last 1 999999 = false) := h1
    clear h1
    go_enter Tryz.func24, Tryz.ntmps24
    go_wp2_with fail
    refine (btw_is H1.out _).mono ?_
    rintro e w' ⟨rfl, rfl⟩
    go_wp2
    go_ret
    exact ⟨ret_bool E.out.symm, HB.out⟩
  | true =>
    have H1 : Hid (btwB L.last 1 999999 = true) := h1
    cases h2 : btwB L.first 1 L.last with
    | false =>
      have E : Hid (logB L = false) := by show _ = _; simp [logB, h2]
      have H2 : Hid (btwB L.first 1 L.last = false) := h2
      clear h1 h2
      go_enter Tryz.func24, Tryz.ntmps24
      go_wp2_with fail
      refine (btw_is H1.out _).mono ?_
      rintro e w' ⟨rfl, rfl⟩
      go_wp2_with fail
      refine (btw_is H2.out _).mono ?_
      rintro e w' ⟨rfl, rfl⟩
      go_wp2
      go_ret
      exact ⟨ret_bool E.out.symm, HB.out⟩
    | true =>
      have H2 : Hid (btwB L.first 1 L.last = true) := h2
      have E : Hid (logB L = btwB L.size 0 1000000000) := by show _ = _; simp [logB, h1, h2]
      clear h1 h2
      go_enter Tryz.func24, Tryz.ntmps24
      go_wp2_with fail
      refine (btw_is H1.out _).mono ?_
      rintro e w' ⟨rfl, rfl⟩
      go_wp2_with fail
      refine (btw_is H2.out _).mono ?_
      rintro e w' ⟨rfl, rfl⟩
      go_wp2_with fail
      refine (between_any L.size 0 1000000000 _).mono ?_
      rintro e w' ⟨rfl, rfl⟩
      go_wp2
      go_ret
      exact ⟨ret_bool E.out.symm, HB.out⟩
end Go.Proofs.YtndaihhjhllfcadGreatDoor

namespace Go.Proofs.YtndaihhjhllfcadGreatDoor
open Go.RowKit

set_option maxRecDepth 100000 in
set_option maxHeartbeats 1000000 in
theorem specSeg_any (n : Int) (w : World) :
    Calls Tryz.prog 27 #[.int .i64 n] w fun e w' => e = .returned (.string (segS n)) ∧ Below w.heap.size w w' := by
  by_cases h : 1 ≤ n ∧ n ≤ 999999
  · have hB : btwB n 1 999999 = true := by unfold btwB; simp; omega
    have E : Hid (segS n = segN n.toNat) := if_pos h
    obtain ⟨N, rfl⟩ := Int.eq_ofNat_of_zero_le (show 0 ≤ n by omega)
    have hN : N ≤ 999999 := by omega
    have hcv := conv_one
    clear h
    go_enter Tryz.func27, Tryz.ntmps27
    go_wp2_with (go_at_call 25; refine (between_any _ _ _ _).mono ?_; rintro e w' ⟨rfl, hw⟩; replace hw := hw.symm; subst hw)
    go_loopw [0, 3, 4] (fun m s i wr => ∃ (j M : Nat) (st : ByteArray), j ≤ 6 ∧ i = .int .i64 j ∧ m = .int .i64 M ∧ s = .string st ∧ Hid (M = N / 10 ^ j) ∧ M ≤ 999999 ∧ st.size = j ∧ Hid (st.data.toList = segD N j) ∧ Below w.heap.size w wr) (fun _ _ i _ => 6 - (intOf i).toNat)
    case atStart => exact ⟨0, N, ByteArray.empty, by omega, rfl, rfl, rfl, by show _ = _; simp, hN, rfl, rfl, Below.refl _ _⟩
    case round =>
      obtain ⟨j, M, st, hj, rfl, rfl, rfl, hM, hM2, hsz, hst, hbel⟩ := hrel
      by_cases hlt : j < 6
      · go_wp2
        refine ⟨⟨j + 1, M / 10, _, by omega, by go_num, by go_num, rfl, ?_, by omega, ?_, ?_, bto hbel (bnew _ _)⟩, by simp [intOf]; omega⟩
        · show _ = _
          rw [hM.out, Nat.div_div_eq_div_mul, Nat.pow_succ]
        · rw [str_one_size, hsz]
        · show _ = _
          rw [str_one, hst.out, segD, hM.out]
      · go_wp2
        go_ret
        have e : j = 6 := by omega
        subst e
        refine ⟨congrArg (fun x => Ending.returned (.string x)) ?_, hbel⟩
        rw [E.out, segN]
        refine mk_toList _ _ ?_
        rw [Int.toNat_natCast, ← hst.out]
        simp
  · have hB : btwB n 1 999999 = false := by unfold btwB; simp; omega
    have E : Hid (segS n = ByteArray.empty) := if_neg h
    go_enter Tryz.func27, Tryz.ntmps27
    go_wp2_with (go_at_call 25; refine (between_any _ _ _ _).mono ?_; rintro e w' ⟨rfl, hw⟩; replace hw := hw.symm; subst hw)
    go_ret
    exact ⟨congrArg (fun x => Ending.returned (.string x)) E.out.symm, Below.refl _ _⟩
end Go.Proofs.YtndaihhjhllfcadGreatDoor

namespace Go.Proofs.YtndaihhjhllfcadGreatDoor
open Go.RowKit

theorem str_eq {x y : ByteArray} : (x.toList == y.toList) = true ↔ x = y := ⟨fun h => toList_inj (by simpa using h), fun h => by rw [h]; simp⟩
theorem str_ne {x y : ByteArray} : (x.toList == y.toList) = false ↔ x ≠ y := by rw [← Bool.not_eq_true, str_eq]
theorem str_nil {x : ByteArray} : x.toList.isEmpty = true ↔ x = ByteArray.empty := by
  rw [List.isEmpty_iff]
  constructor
  · intro h
    exact toList_inj (by rw [h, ByteArray.toList_eq]; rfl)
  · intro h
    rw [h, ByteArray.toList_eq]; rfl
theorem str_some {x : ByteArray} : x.toList.isEmpty = false ↔ x ≠ ByteArray.empty := by rw [← Bool.not_eq_true, str_nil]

end Go.Proofs.YtndaihhjhllfcadGreatDoor

namespace Go.Proofs.YtndaihhjhllfcadGreatDoor
open Go.RowKit

set_option maxRecDepth 100000 in
set_option maxHeartbeats 1000000 in
theorem specCrc_any (s : ByteArray) (w : World) (hs : s.size ≤ maxLen) :
    Calls Tryz.prog 58 #[.string s] w fun e w' => e = .returned (.int .i64 (crcV s : Nat)) ∧ w' = w := by
  unfold maxLen at hs
  go_enter Tryz.func58, Tryz.ntmps58
  go_wp2
  go_loop [3, 4, 5, 6, 7, 8] (fun r i _ _ _ _ => ∃ (j R : Nat), j ≤ s.size ∧ i = .int .i64 j ∧ r = .int .i64 R ∧ Hid (R = crcL (s.data.toList.take j))) (fun _ i _ _ _ _ => s.size - (intOf i).toNat)
  case atStart => exact ⟨0, 4294967295, Nat.zero_le _, rfl, rfl, rfl⟩
  case round =>
    obtain ⟨j, R, hj, rfl, rfl, hR⟩ := hrel
    have hRlt : R < 4294967296 := by rw [hR.out]; exact crcL_lt _
    by_cases hlt : j < s.size
    · have hU : s[j].toNat < 256 := s[j].toNat_lt
      go_wp2
      go_loop [3, 5, 6, 7, 8] (fun r k _ _ _ => ∃ (m S : Nat), m ≤ 8 ∧ k = .int .i64 m ∧ r = .int .i64 S ∧ Hid (S = crcBits R s[j].toNat m)) (fun _ k _ _ _ => 8 - (intOf k).toNat)
      case atStart => exact ⟨0, R, by omega, rfl, rfl, rfl⟩
      case round =>
        obtain ⟨m, S, hm, rfl, rfl, hS⟩ := hrel
        have hSlt : S < 4294967296 := by rw [hS.out]; exact crcBits_lt hRlt _
        by_cases hm8 : m < 8
        · go_wp2
          go_loop [6, 7] (fun x q => ∃ (t X : Nat), t ≤ m ∧ q = .int .i64 t ∧ x = .int .i64 X ∧ Hid (X = s[j].toNat / 2 ^ t)) (fun _ q => m - (intOf q).toNat)
          case atStart => exact ⟨0, s[j].toNat, by omega, rfl, rfl, by show _ = _; simp⟩
          case round =>
            obtain ⟨t, X, ht, rfl, rfl, hX⟩ := hrel
            have hXlt : X < 256 := by
              have : X ≤ s[j].toNat := by rw [hX.out]; exact Nat.div_le_self _ _
              omega
            by_cases htm : t < m
            · go_wp2
              exact ⟨⟨t + 1, X / 2, by omega, by go_num, by go_num, by show _ = _; rw [hX.out, Nat.div_div_eq_div_mul, Nat.pow_succ]⟩, by simp [intOf]; omega⟩
            · have e : t = m := by omega
              subst e
              by_cases hodd : (S + X) % 2 = 1
              · go_wp2
                have e2 : bits BinOp.xor IntKind.i64 ((S : Int) / 2) 2197175160 = (((S / 2) ^^^ 2197175160 : Nat) : Int) := xor_i64 (S / 2) 2197175160 (by omega) (by omega)
                rw [e2]
                exact ⟨⟨t + 1, _, by omega, by go_num, rfl, by show _ = _; rw [crcBits, crcBit, ← hS.out, ← hX.out, if_pos hodd]⟩, by simp [intOf]; omega⟩
              · go_wp2
                exact ⟨⟨t + 1, S / 2, by omega, by go_num, by go_num, by show _ = _; rw [crcBits, crcBit, ← hS.out, ← hX.out, if_neg hodd]⟩, by simp [intOf]; omega⟩
        · go_wp2
          have e : m = 8 := by omega
          subst e
          exact ⟨⟨j + 1, S, by omega, by go_num, rfl, by show _ = _; rw [take_snoc s j hlt, crcL_snoc, ← hR.out, crcByte, hS.out]⟩, by simp [intOf]; omega⟩
    · go_wp2
      go_ret
      refine ⟨ret_int ?_, rfl⟩
      rw [crcV, ← List.take_of_length_le (l := s.data.toList) (i := j) (by simp; omega), ← hR.out]
      omega
end Go.Proofs.YtndaihhjhllfcadGreatDoor

namespace Go.Proofs.YtndaihhjhllfcadGreatDoor
open Go.RowKit

theorem ret_str {a b : ByteArray} (h : a = b) : Ending.returned (.string a) = .returned (.string b) := by rw [h]

set_option maxRecDepth 100000 in
set_option maxHeartbeats 1000000 in
theorem specFrame_any (p : ByteArray) (w : World) (hs : p.size ≤ maxLen) :
    Calls Tryz.prog 23 #[.string p] w fun e w' => e = .returned (.string (frameS p)) ∧ Below w.heap.size w w' := by
  by_cases h : 1 ≤ p.size ∧ p.size ≤ 60000
  · have hB : btwB (p.size : Int) 1 60000 = true := by unfold btwB; simp; omega
    have E : Hid (frameS p = numS 4 p.size ++ numS 4 (crcV p : Nat) ++ p) := if_pos h
    have h1 := numS_size 4 (p.size : Int)
    have h2 := numS_size 4 ((crcV p : Nat) : Int)
    have hc := crcV_lt p
    have hp := h.2
    have HS : Hid (p.size ≤ maxLen) := hs
    clear hs h
    go_enter Tryz.func23, Tryz.ntmps23
    go_wp2_with (go_at_call 25; refine (between_any _ _ _ _).mono ?_; rintro e w' ⟨rfl, hw⟩; replace hw := hw.symm; subst hw)
    refine (specNum_any 4 (p.size : Int) _ (by omega) (by omega) (by omega)).mono ?_
    rintro e w1 ⟨rfl, hb1⟩
    go_wp2_with fail
    refine (specCrc_any p _ HS.out).mono ?_
    rintro e w' ⟨rfl, hw⟩
    replace hw := hw.symm
    subst hw
    go_wp2_with fail
    refine (specNum_any 4 ((crcV p : Nat) : Int) _ (by omega) (by omega) (by omega)).mono ?_
    rintro e w2 ⟨rfl, hb2⟩
    generalize numS 4 (p.size : Int) = A at *
    generalize numS 4 ((crcV p : Nat) : Int) = B at *
    have HB : Hid (Below w.heap.size w w2) := bto hb1 hb2
    clear hb1 hb2
    go_wp2
    go_ret
    exact ⟨ret_str E.out.symm, HB.out⟩
  · have hB : btwB (p.size : Int) 1 60000 = false := by unfold btwB; simp; omega
    have E : Hid (frameS p = ByteArray.empty) := if_neg h
    go_enter Tryz.func23, Tryz.ntmps23
    go_wp2_with (go_at_call 25; refine (between_any _ _ _ _).mono ?_; rintro e w' ⟨rfl, hw⟩; replace hw := hw.symm; subst hw)
    go_ret
    exact ⟨ret_str E.out.symm, Below.refl _ _⟩
end Go.Proofs.YtndaihhjhllfcadGreatDoor

