import Derived.Test.YtboofidegpnkaaaGreatDoorProg
import Derived.Test.YtboofidegpnkaaaGreatDoorJ07Code
import Derived.Test.YtboofidegpnkaaaGreatDoorJ01Btw
import Derived.Test.YtboofidegpnkaaaGreatDoorJ22SFrame
import Derived.Test.YtboofidegpnkaaaGreatDoorJ03Ord
import Derived.Test.YtboofidegpnkaaaGreatDoorJ10Ren
import Derived.Test.YtboofidegpnkaaaGreatDoorJ02Shelf
import Derived.Test.YtboofidegpnkaaaGreatDoorJ21SegL
import Derived.Test.YtboofidegpnkaaaGreatDoorJ04Clone
import Derived.Lib.LaidTab
import Derived.Lib.AppendIntMem
import Derived.Laws.Tables
import Derived.Laws.CopyRow
namespace Go.Proofs.YtboofidegpnkaaaGreatDoor
open Go.RowKit
def tCorrupt : ByteArray := ⟨#[97, 32, 115, 101, 103, 109, 101, 110, 116, 32, 97, 104, 101, 97, 100, 32, 111, 102, 32, 116, 104, 101, 32, 108, 97, 115, 116, 32, 105, 115, 32, 116, 111, 114, 110]⟩
def tGap : ByteArray := ⟨#[116, 104, 101, 32, 115, 101, 103, 109, 101, 110, 116, 115, 32, 97, 114, 101, 32, 110, 111, 32, 108, 111, 103]⟩
def tTooBig : ByteArray := ⟨#[116, 104, 101, 32, 112, 97, 121, 108, 111, 97, 100, 32, 104, 97, 115, 32, 110, 111, 32, 102, 114, 97, 109, 101]⟩
def tEnd : ByteArray := ⟨#[116, 104, 101, 32, 108, 111, 103, 32, 104, 97, 115, 32, 110, 111, 32, 115, 101, 103, 109, 101, 110, 116, 115, 32, 108, 101, 102, 116]⟩
def errW (code : Nat) : Value := match code with
  | 20 => .iface 79 (.string tCorrupt)
  | 21 => .iface 79 (.string tGap)
  | 22 => .iface 79 (.string tTooBig)
  | 23 => .iface 79 (.string tEnd)
  | c => errV c
theorem run_eql_nil_iface {P : Program} (w : World) {t tx : TypeId} {ms : Array (String × TypeId)} (b : ByteArray) (ht : P.underlying t = some (.interface ms)) :
    (binOp .eql t .nilIface (.iface tx (.string b))).run P w = .ok (.bool false) w := by
  have h : ∀ d : Nat, (Op.equalIn (d + 2) t .nilIface (.iface tx (.string b))).run P w = .ok false w := fun d => by
    simp [Op.equalIn, run_underlying ht]
  simp only [binOp]
  simp [Op.equal, Op.maxDepth, h 9998]
set_option maxHeartbeats 1000000 in
set_option maxRecDepth 100000 in
theorem is_nil (b : ByteArray) (w : World) :
    Calls Tryz.prog 41 #[.nilIface, .iface 79 (.string b)] w fun e w' => e = .returned (.bool false) ∧ w' = w := by
  have heq : (binOp .eql 55 .nilIface (.iface 79 (.string b))).run Tryz.prog w = .ok (.bool false) w := run_eql_nil_iface w b Tryz.underlying55
  go_enter Tryz.func41, Tryz.ntmps41
  go_wp2
  go_ret
  exact ⟨rfl, rfl⟩
theorem is_not (code : Nat) (h : code ≤ 6) (b : ByteArray) (w : World) (h1 : (tDown == b) = false) (h2 : (tFailed == b) = false) (h3 : (tFull == b) = false) (h4 : (tMissing == b) = false) (h5 : (tExists == b) = false) (h6 : (tBad == b) = false) :
    Calls Tryz.prog 41 #[errV code, .iface 79 (.string b)] w fun e w' => e = .returned (.bool false) ∧ w' = w := by
  match code, h with
  | 0, _ => exact is_nil b w
  | 1, _ => exact is_any _ _ false h1 w
  | 2, _ => exact is_any _ _ false h2 w
  | 3, _ => exact is_any _ _ false h3 w
  | 4, _ => exact is_any _ _ false h4 w
  | 5, _ => exact is_any _ _ false h5 w
  | 6, _ => exact is_any _ _ false h6 w
set_option maxHeartbeats 400000 in
theorem logCode_disk (code : Nat) (h : code ≤ 6) (w : World) : Calls Tryz.prog 23 #[errV code] w fun e w' => e = .returned (.int .i64 code) ∧ w' = w := by
  have H1 : Hid (∀ W, Calls Tryz.prog 41 #[errV code, .iface 79 (.string tCorrupt)] W fun e w' => e = .returned (.bool false) ∧ w' = W) := fun W => is_not code h _ W (by kernel_rfl) (by kernel_rfl) (by kernel_rfl) (by kernel_rfl) (by kernel_rfl) (by kernel_rfl)
  have H2 : Hid (∀ W, Calls Tryz.prog 41 #[errV code, .iface 79 (.string tGap)] W fun e w' => e = .returned (.bool false) ∧ w' = W) := fun W => is_not code h _ W (by kernel_rfl) (by kernel_rfl) (by kernel_rfl) (by kernel_rfl) (by kernel_rfl) (by kernel_rfl)
  have H3 : Hid (∀ W, Calls Tryz.prog 41 #[errV code, .iface 79 (.string tTooBig)] W fun e w' => e = .returned (.bool false) ∧ w' = W) := fun W => is_not code h _ W (by kernel_rfl) (by kernel_rfl) (by kernel_rfl) (by kernel_rfl) (by kernel_rfl) (by kernel_rfl)
  have H4 : Hid (∀ W, Calls Tryz.prog 41 #[errV code, .iface 79 (.string tEnd)] W fun e w' => e = .returned (.bool false) ∧ w' = W) := fun W => is_not code h _ W (by kernel_rfl) (by kernel_rfl) (by kernel_rfl) (by kernel_rfl) (by kernel_rfl) (by kernel_rfl)
  have H5 : Hid (∀ W, Calls Tryz.prog 42 #[errV code] W fun e w' => e = .returned (.int .i64 code) ∧ w' = W) := fun W => code_any code h W
  generalize errV code = E at *
  go_enter Tryz.func23, Tryz.ntmps23
  go_wp2_with fail
  refine (H1.out _).mono ?_
  rintro e w' ⟨rfl, hw⟩; replace hw := hw.symm; subst hw
  go_wp2_with fail
  refine (H2.out _).mono ?_
  rintro e w' ⟨rfl, hw⟩; replace hw := hw.symm; subst hw
  go_wp2_with fail
  refine (H3.out _).mono ?_
  rintro e w' ⟨rfl, hw⟩; replace hw := hw.symm; subst hw
  go_wp2_with fail
  refine (H4.out _).mono ?_
  rintro e w' ⟨rfl, hw⟩; replace hw := hw.symm; subst hw
  go_wp2_with fail
  refine (H5.out _).mono ?_
  rintro e w' ⟨rfl, hw⟩; replace hw := hw.symm; subst hw
  go_wp2
  go_ret
  exact ⟨rfl, rfl⟩
set_option maxHeartbeats 400000 in
theorem logCode_Corrupt (w : World) : Calls Tryz.prog 23 #[.iface 79 (.string tCorrupt)] w fun e w' => e = .returned (.int .i64 20) ∧ w' = w := by
  go_enter Tryz.func23, Tryz.ntmps23
  go_wp2_with fail
  refine (is_any _ _ true (by kernel_rfl) _).mono ?_
  rintro e w' ⟨rfl, rfl⟩
  go_wp2
  go_ret
  exact ⟨rfl, rfl⟩
set_option maxHeartbeats 400000 in
theorem logCode_Gap (w : World) : Calls Tryz.prog 23 #[.iface 79 (.string tGap)] w fun e w' => e = .returned (.int .i64 21) ∧ w' = w := by
  go_enter Tryz.func23, Tryz.ntmps23
  go_wp2_with fail
  refine (is_any _ _ false (by kernel_rfl) _).mono ?_
  rintro e w' ⟨rfl, rfl⟩
  go_wp2_with fail
  refine (is_any _ _ true (by kernel_rfl) _).mono ?_
  rintro e w' ⟨rfl, rfl⟩
  go_wp2
  go_ret
  exact ⟨rfl, rfl⟩
set_option maxHeartbeats 400000 in
theorem logCode_TooBig (w : World) : Calls Tryz.prog 23 #[.iface 79 (.string tTooBig)] w fun e w' => e = .returned (.int .i64 22) ∧ w' = w := by
  go_enter Tryz.func23, Tryz.ntmps23
  go_wp2_with fail
  refine (is_any _ _ false (by kernel_rfl) _).mono ?_
  rintro e w' ⟨rfl, rfl⟩
  go_wp2_with fail
  refine (is_any _ _ false (by kernel_rfl) _).mono ?_
  rintro e w' ⟨rfl, rfl⟩
  go_wp2_with fail
  refine (is_any _ _ true (by kernel_rfl) _).mono ?_
  rintro e w' ⟨rfl, rfl⟩
  go_wp2
  go_ret
  exact ⟨rfl, rfl⟩
set_option maxHeartbeats 400000 in
theorem logCode_End (w : World) : Calls Tryz.prog 23 #[.iface 79 (.string tEnd)] w fun e w' => e = .returned (.int .i64 23) ∧ w' = w := by
  go_enter Tryz.func23, Tryz.ntmps23
  go_wp2_with fail
  refine (is_any _ _ false (by kernel_rfl) _).mono ?_
  rintro e w' ⟨rfl, rfl⟩
  go_wp2_with fail
  refine (is_any _ _ false (by kernel_rfl) _).mono ?_
  rintro e w' ⟨rfl, rfl⟩
  go_wp2_with fail
  refine (is_any _ _ false (by kernel_rfl) _).mono ?_
  rintro e w' ⟨rfl, rfl⟩
  go_wp2_with fail
  refine (is_any _ _ true (by kernel_rfl) _).mono ?_
  rintro e w' ⟨rfl, rfl⟩
  go_wp2
  go_ret
  exact ⟨rfl, rfl⟩
theorem logCode_any (code : Nat) (h : code ≤ 6 ∨ code = 20 ∨ code = 21 ∨ code = 22 ∨ code = 23) (w : World) : Calls Tryz.prog 23 #[errW code] w fun e w' => e = .returned (.int .i64 code) ∧ w' = w := by
  rcases h with h | rfl | rfl | rfl | rfl
  rotate_left
  · exact logCode_Corrupt w
  · exact logCode_Gap w
  · exact logCode_TooBig w
  · exact logCode_End w
  match code, h with
  | 0, _ => exact logCode_disk 0 (by omega) w
  | 1, _ => exact logCode_disk 1 (by omega) w
  | 2, _ => exact logCode_disk 2 (by omega) w
  | 3, _ => exact logCode_disk 3 (by omega) w
  | 4, _ => exact logCode_disk 4 (by omega) w
  | 5, _ => exact logCode_disk 5 (by omega) w
  | 6, _ => exact logCode_disk 6 (by omega) w
theorem errW_disk {code : Nat} (h : code ≤ 6) : errW code = errV code := by
  match code, h with
  | 0, _ => rfl
  | 1, _ => rfl
  | 2, _ => rfl
  | 3, _ => rfl
  | 4, _ => rfl
  | 5, _ => rfl
  | 6, _ => rfl
end Go.Proofs.YtboofidegpnkaaaGreatDoor
namespace Go.Proofs.YtboofidegpnkaaaGreatDoor
open Go.RowKit
theorem fits_any (x : Int) (w : World) : Calls Tryz.prog 39 #[.int .i64 x] w fun e w' => e = .returned (.bool (btwB x 1 60000)) ∧ w' = w := by
  by_cases h1 : 1 ≤ x
  · by_cases h2 : x ≤ 60000
    · have e : btwB x 1 60000 = true := by simp [btwB, h1, h2]
      rw [e]
      go_enter Tryz.func39, Tryz.ntmps39
      go_wp2
      go_ret
      exact ⟨rfl, rfl⟩
    · have e : btwB x 1 60000 = false := by simp [btwB, h2]
      rw [e]
      go_enter Tryz.func39, Tryz.ntmps39
      go_wp2
      go_ret
      exact ⟨rfl, rfl⟩
  · have e : btwB x 1 60000 = false := by simp [btwB, h1]
    rw [e]
    go_enter Tryz.func39, Tryz.ntmps39
    go_wp2
    go_ret
    exact ⟨rfl, rfl⟩
end Go.Proofs.YtboofidegpnkaaaGreatDoor
namespace Go.Proofs.YtboofidegpnkaaaGreatDoor
open Go.RowKit
def WrAt (w : World) (P D : Nat) (L : LogD) : Prop := Blk w P #[.pointer (some ⟨D, 0, none⟩), .int .i64 L.first, .int .i64 L.last, .int .i64 L.size] 53
theorem WrAt.later {w w' : World} {P D : Nat} {L : LogD} (h : WrAt w P D L) (hb : Below w.heap.size w w') : WrAt w' P D L := Blk.later h hb
theorem WrAt.cells {w : World} {P D : Nat} {L : LogD} (h : WrAt w P D L) : w.cell? ⟨P, 0, none⟩ = some (.pointer (some ⟨D, 0, none⟩)) ∧ w.cell? ⟨P, 1, none⟩ = some (.int .i64 L.first) ∧ w.cell? ⟨P, 2, none⟩ = some (.int .i64 L.last) ∧ w.cell? ⟨P, 3, none⟩ = some (.int .i64 L.size) := by
  refine ⟨?_, ?_, ?_, ?_⟩ <;> rw [Blk.cell h] <;> rfl
set_option maxRecDepth 100000 in
set_option maxHeartbeats 1000000 in
theorem isLog_any (L : LogD) (w : World) : Calls Tryz.prog 38 #[.agg #[.int .i64 L.first, .int .i64 L.last, .int .i64 L.size]] w fun e w' => e = .returned (.bool (logB L)) ∧ Below w.heap.size w w' := by
  obtain ⟨a, b, c⟩ := L
  have HB : Hid (Below w.heap.size w (w.alloc (.cells #[.int .i64 a, .int .i64 b, .int .i64 c] 31))) := bnew _ _
  by_cases h1 : 1 ≤ a
  · by_cases h2 : a ≤ b
    · by_cases h3 : b ≤ 999999
      · have e : Hid (logB ⟨a, b, c⟩ = btwB c 0 1000000000) := by
          show _ = _
          have e1 : btwB b 1 999999 = true := by simp [btwB]; omega
          have e2 : btwB a 1 b = true := by simp [btwB]; omega
          simp only [logB, e1, e2, Bool.true_and]
        go_enter Tryz.func38, Tryz.ntmps38
        go_wp2_with fail
        refine (within_any _ _ _).mono ?_
        rintro e w' ⟨rfl, hw⟩; replace hw := hw.symm; subst hw
        go_wp2
        go_ret
        exact ⟨ret_bool e.out.symm, HB.out⟩
      · have e : Hid (logB ⟨a, b, c⟩ = false) := by
          show _ = _
          have e1 : btwB b 1 999999 = false := by simp [btwB]; omega
          simp [logB, e1]
        go_enter Tryz.func38, Tryz.ntmps38
        go_wp2
        go_ret
        exact ⟨ret_bool e.out.symm, HB.out⟩
    · have e : Hid (logB ⟨a, b, c⟩ = false) := by
        show _ = _
        have e1 : btwB a 1 b = false := by simp [btwB]; omega
        simp [logB, e1]
      go_enter Tryz.func38, Tryz.ntmps38
      go_wp2
      go_ret
      exact ⟨ret_bool e.out.symm, HB.out⟩
  · have e : Hid (logB ⟨a, b, c⟩ = false) := by
      show _ = _
      have e1 : btwB a 1 b = false := by simp [btwB]; omega
      simp [logB, e1]
    go_enter Tryz.func38, Tryz.ntmps38
    go_wp2
    go_ret
    exact ⟨ret_bool e.out.symm, HB.out⟩
def fullB (L : LogD) (z most : Int) : Bool := decide (L.size ≠ 0) && decide (most < L.size + z)
set_option maxRecDepth 100000 in
set_option maxHeartbeats 1000000 in
theorem full_any (P D : Nat) (L : LogD) (z most : Int) (w : World) (h : WrAt w P D L) (h0 : 0 ≤ L.size ∧ L.size ≤ 1000000000) (hz : 0 ≤ z ∧ z ≤ 1000000000) :
    Calls Tryz.prog 40 #[.pointer (some ⟨P, 0, none⟩), .int .i64 z, .int .i64 most] w fun e w' => e = .returned (.bool (fullB L z most)) ∧ w' = w := by
  obtain ⟨c0, c1, c2, c3⟩ := h.cells
  clear h c0 c1 c2
  obtain ⟨a, b, c⟩ := L
  simp only at h0 c3
  have hw : IntKind.i64.wrap (c + z) = c + z := by rw [IntKind.wrap_i64]; omega
  by_cases h1 : c = 0
  · subst h1
    have e : Hid (fullB ⟨a, b, 0⟩ z most = false) := by show _ = _; simp [fullB]
    go_enter Tryz.func40, Tryz.ntmps40
    go_wp2
    go_ret
    exact ⟨ret_bool e.out.symm, rfl⟩
  · have h1b : (c == 0) = false := by simpa using h1
    have e : Hid (fullB ⟨a, b, c⟩ z most = decide (most < c + z)) := by show _ = _; simp [fullB, h1]
    go_enter Tryz.func40, Tryz.ntmps40
    go_wp2
    go_ret
    exact ⟨ret_bool (by rw [e.out]; simp [h1]), rfl⟩
end Go.Proofs.YtboofidegpnkaaaGreatDoor
namespace Go.Proofs.YtboofidegpnkaaaGreatDoor
open Go.RowKit
def refR (L : LogD) (p : ByteArray) (most : Int) : Nat :=
  if (logB L && btwB most 1 1000000000) = false then 21
  else if btwB p.size 1 60000 = false then 22
  else if L.last = 999999 ∧ fullB L (8 + p.size) most = true then 23 else 0
theorem log_size {L : LogD} (h : logB L = true) : 0 ≤ L.size ∧ L.size ≤ 1000000000 ∧ 1 ≤ L.first ∧ L.first ≤ L.last ∧ 1 ≤ L.last ∧ L.last ≤ 999999 := by
  simp only [logB, btwB, Bool.and_eq_true, decide_eq_true_eq] at h
  omega
set_option maxRecDepth 100000 in
set_option maxHeartbeats 2000000 in
theorem refuse_any (P D : Nat) (L : LogD) (p : ByteArray) (most : Int) (w : World) (h : WrAt w P D L) (hp : p.size ≤ 1048576) :
    Calls Tryz.prog 21 #[.pointer (some ⟨P, 0, none⟩), .string p, .int .i64 most] w fun e w' => e = .returned (errW (refR L p most)) ∧ Below w.heap.size w w' := by
  obtain ⟨c0, c1, c2, c3⟩ := h.cells
  have HW : Hid (WrAt w P D L) := h
  clear h c0
  have HL : Hid (∀ W, Calls Tryz.prog 38 #[.agg #[.int .i64 L.first, .int .i64 L.last, .int .i64 L.size]] W fun e w' => e = .returned (.bool (logB L)) ∧ Below W.heap.size W w') := fun W => isLog_any L W
  have HF : Hid (∀ W, Calls Tryz.prog 39 #[.int .i64 (p.size : Int)] W fun e w' => e = .returned (.bool (btwB p.size 1 60000)) ∧ w' = W) := fun W => fits_any _ W
  cases hl : logB L with
  | false =>
    have E : Hid (refR L p most = 21) := by show _ = _; rw [refR, hl]; rfl
    rw [hl] at HL
    clear hl
    go_enter Tryz.func21, Tryz.ntmps21
    go_wp2_with fail
    refine (HL.out _).mono ?_
    rintro e w1 ⟨rfl, hb1⟩
    have HB : Hid (Below w.heap.size w w1) := hb1
    clear hb1
    go_wp2
    go_ret
    rw [E.out]
    exact ⟨rfl, HB.out⟩
  | true =>
    obtain ⟨hs0, hs1, _, _, hl1, hl2⟩ := log_size hl
    rw [hl] at HL
    by_cases hm : 1 ≤ most ∧ most ≤ 1000000000
    · have hmb : btwB most 1 1000000000 = true := by simp [btwB]; omega
      cases hf : btwB p.size 1 60000 with
      | false =>
        have E : Hid (refR L p most = 22) := by show _ = _; simp [refR, hl, hmb, hf]
        rw [hf] at HF
        clear hf hl hmb
        go_enter Tryz.func21, Tryz.ntmps21
        go_wp2_with fail
        refine (HL.out _).mono ?_
        rintro e w1 ⟨rfl, hb1⟩
        have HB : Hid (Below w.heap.size w w1) := hb1
        clear hb1
        go_wp2_with fail
        refine (HF.out _).mono ?_
        rintro e w' ⟨rfl, hw⟩; replace hw := hw.symm; subst hw
        go_wp2
        go_ret
        rw [E.out]
        exact ⟨rfl, HB.out⟩
      | true =>
        have hz : 1 ≤ p.size ∧ p.size ≤ 60000 := by
          simp only [btwB, Bool.and_eq_true, decide_eq_true_eq] at hf; omega
        have E0 : Hid (refR L p most = if L.last = 999999 ∧ fullB L (8 + p.size) most = true then 23 else 0) := by show _ = _; simp [refR, hl, hmb, hf]
        rw [hf] at HF
        clear hf hl hmb
        go_enter Tryz.func21, Tryz.ntmps21
        go_wp2_with fail
        refine (HL.out _).mono ?_
        rintro e w1 ⟨rfl, hb1⟩
        have HB : Hid (Below w.heap.size w w1) := hb1
        have HW1 : Hid (WrAt w1 P D L) := HW.out.later hb1
        obtain ⟨_, _, d2, _⟩ := HW1.out.cells
        clear hb1 c1 c2 c3
        go_wp2_with fail
        refine (HF.out _).mono ?_
        rintro e w' ⟨rfl, hw⟩; replace hw := hw.symm; subst hw
        by_cases h9 : L.last = 999999
        · have h9b : (L.last == 999999) = true := by simpa using h9
          cases hfu : fullB L (8 + p.size) most with
          | true =>
            have E : Hid (refR L p most = 23) := by show _ = _; rw [E0.out, if_pos ⟨h9, hfu⟩]
            have HFU : Hid (Calls Tryz.prog 40 #[.pointer (some ⟨P, 0, none⟩), .int .i64 (8 + (p.size : Int)), .int .i64 most] w1 fun e w' => e = .returned (.bool true) ∧ w' = w1) := by
              have := full_any P D L (8 + (p.size : Int)) most w1 HW1.out ⟨hs0, hs1⟩ (by omega)
              rw [hfu] at this
              exact this
            clear hfu h9
            go_wp2_with fail
            refine HFU.out.mono ?_
            rintro e w' ⟨rfl, hw⟩; replace hw := hw.symm; subst hw
            go_wp2
            go_ret
            rw [E.out]
            exact ⟨rfl, HB.out⟩
          | false =>
            have E : Hid (refR L p most = 0) := by show _ = _; rw [E0.out, if_neg (fun h => by rw [hfu] at h; cases h.2)]
            have HFU : Hid (Calls Tryz.prog 40 #[.pointer (some ⟨P, 0, none⟩), .int .i64 (8 + (p.size : Int)), .int .i64 most] w1 fun e w' => e = .returned (.bool false) ∧ w' = w1) := by
              have := full_any P D L (8 + (p.size : Int)) most w1 HW1.out ⟨hs0, hs1⟩ (by omega)
              rw [hfu] at this
              exact this
            clear hfu h9
            go_wp2_with fail
            refine HFU.out.mono ?_
            rintro e w' ⟨rfl, hw⟩; replace hw := hw.symm; subst hw
            go_wp2
            go_ret
            rw [E.out]
            exact ⟨rfl, HB.out⟩
        · have h9b : (L.last == 999999) = false := by simpa using h9
          have E : Hid (refR L p most = 0) := by show _ = _; rw [E0.out, if_neg (fun h => h9 h.1)]
          clear h9
          go_wp2
          go_ret
          rw [E.out]
          exact ⟨rfl, HB.out⟩
    · have E : Hid (refR L p most = 21) := by
        show _ = _
        have hmb : btwB most 1 1000000000 = false := by simp [btwB]; omega
        simp [refR, hmb]
      by_cases hm1 : most < 1
      · go_enter Tryz.func21, Tryz.ntmps21
        go_wp2_with fail
        refine (HL.out _).mono ?_
        rintro e w1 ⟨rfl, hb1⟩
        have HB : Hid (Below w.heap.size w w1) := hb1
        clear hb1
        go_wp2
        go_ret
        rw [E.out]
        exact ⟨rfl, HB.out⟩
      · have hm2 : 1000000000 < most := by omega
        clear hm
        go_enter Tryz.func21, Tryz.ntmps21
        go_wp2_with fail
        refine (HL.out _).mono ?_
        rintro e w1 ⟨rfl, hb1⟩
        have HB : Hid (Below w.heap.size w w1) := hb1
        clear hb1
        go_wp2
        go_ret
        rw [E.out]
        exact ⟨rfl, HB.out⟩
end Go.Proofs.YtboofidegpnkaaaGreatDoor
namespace Go.Proofs.YtboofidegpnkaaaGreatDoor
open Go.RowKit
theorem filesB_of {fs : List FileD} (h1 : ∀ f ∈ fs, fileB f = true) (h2 : Asc fs) : filesB fs = true := by
  simp only [filesB, okTo, List.all_eq_true, List.mem_range]
  intro i hi
  unfold okAt
  rw [List.getElem?_eq_getElem hi]
  simp only [h1 _ (List.getElem_mem hi), Bool.true_and]
  cases i with
  | zero => rfl
  | succ j =>
    simp only [List.getElem?_eq_getElem (show j < fs.length by omega)]
    exact h2 j (j + 1) (by omega) hi
theorem fileB_of {fs : List FileD} (h : filesB fs = true) : ∀ f ∈ fs, fileB f = true := by
  intro f hf
  obtain ⟨i, hi, rfl⟩ := List.getElem_of_mem hf
  simp only [filesB, okTo, List.all_eq_true, List.mem_range] at h
  have := h i hi
  unfold okAt at this
  rw [List.getElem?_eq_getElem hi] at this
  simp only [Bool.and_eq_true] at this
  exact this.1
def ltF (a b : FileD) : Prop := Op.bytesLess a.name.toList b.name.toList = true
theorem asc_pair {fs : List FileD} : Asc fs ↔ fs.Pairwise ltF := by
  rw [List.pairwise_iff_getElem]
  exact ⟨fun h i j _ hj hij => h i j hij hj, fun h i j hij hj => h i j (by omega) hj hij⟩
theorem asc_ins {fs : List FileD} {f : FileD} (h : Asc fs) (hno : hasB fs f.name (posOf f.name fs) = false) : Asc (insL fs (posOf f.name fs) f) := by
  have hp := posOf_is f.name h
  have hne := hasB_none h hno
  have h' := asc_pair.1 h
  rw [← List.take_append_drop (posOf f.name fs) fs, List.pairwise_append] at h'
  rw [asc_pair, insL, List.pairwise_append, List.pairwise_cons]
  refine ⟨h'.1, ⟨fun b hb => ?_, h'.2.1⟩, fun a ha b hb => ?_⟩
  · obtain ⟨j, hj, rfl⟩ := List.getElem_of_mem hb
    rw [List.length_drop] at hj
    rw [List.getElem_drop]
    have h1 := hp.2.2 (posOf f.name fs + j) (by omega) (by omega)
    exact less_total _ _ h1 (fun e => hne _ (by omega) (toList_inj e))
  · rcases List.mem_cons.1 hb with rfl | hb
    · obtain ⟨j, hj, rfl⟩ := List.getElem_of_mem ha
      rw [List.length_take] at hj
      rw [List.getElem_take]
      exact hp.2.1 j (by omega) (by omega)
    · exact h'.2.2 a ha b hb
theorem asc_set {fs : List FileD} {i : Nat} {f : FileD} (h : Asc fs) (hi : i < fs.length) (hn : f.name = fs[i].name) : Asc (fs.set i f) := by
  have hget : ∀ a (ha : a < (fs.set i f).length) (ha' : a < fs.length), (fs.set i f)[a].name = fs[a].name := fun a ha ha' => by
    rw [List.getElem_set]
    split
    · rename_i e; subst e; exact hn
    · rfl
  intro a b hab hb
  have hb' : b < fs.length := by simpa using hb
  rw [hget a (by omega) (by omega), hget b hb hb']
  exact h a b hab hb'
theorem fileB_mk {n d : ByteArray} {s : Int} (hn : nameB n = true) (h0 : 0 ≤ s) (h1 : s ≤ d.size) : fileB ⟨n, d, s⟩ = true := by
  simp [fileB, btwB, hn, h0, h1]
theorem mem_set_or {fs : List FileD} {i : Nat} {f g : FileD} (h : g ∈ fs.set i f) : g = f ∨ g ∈ fs := (List.mem_or_eq_of_mem_set h).symm
theorem diskB_mk {fs : List FileD} {c k cr fl : Int} (h1 : fs.length ≤ 1000) (h2 : filesB fs = true) (h3 : 0 ≤ c ∧ c ≤ 1000000000) (h4 : (sumLen fs : Int) ≤ c) (h5 : 0 ≤ k ∧ k ≤ 1000000000000000) (h6 : 0 ≤ cr ∧ cr ≤ 1000000000000000) (h7 : 0 ≤ fl ∧ fl ≤ 1000000000000000) : diskB fs c k cr fl = true := by
  simp [diskB, btwB, h1, h2, h3, h4, h5, h6, h7]
theorem do_valid {fs : List FileD} {c : Int} {op : OpD} (hf : filesB fs = true) (hl : fs.length ≤ 1000) (hs : (sumLen fs : Int) ≤ c) (ho : nameB op.name = true) (hk : op.kind ≤ 4) (hk1 : 1 ≤ op.kind) :
    filesB (doR fs c op).2 = true ∧ (doR fs c op).2.length ≤ 1000 ∧ (sumLen (doR fs c op).2 : Int) ≤ c := by
  have ha := asc_of hf
  have hb := fileB_of hf
  unfold doR
  simp only
  split
  · split
    · exact ⟨hf, hl, hs⟩
    · rename_i hno
      split
      · exact ⟨hf, hl, hs⟩
      · rename_i hlt
        have hp := posOf_is op.name ha
        refine ⟨filesB_of (fun f hm => ?_) (asc_ins (f := ⟨op.name, ByteArray.empty, 0⟩) ha (by simpa using hno)), ?_, ?_⟩
        · simp only [insL, List.mem_append, List.mem_cons] at hm
          rcases hm with hm | rfl | hm
          · exact hb _ (List.mem_of_mem_take hm)
          · exact fileB_mk ho (by omega) (by simp)
          · exact hb _ (List.mem_of_mem_drop hm)
        · rw [insL_length _ _ _ hp.1]; omega
        · rw [sumLen_ins]; simpa using hs
  · split
    · exact ⟨hf, hl, hs⟩
    · rename_i f hfi
      obtain ⟨hi, rfl⟩ := List.getElem?_eq_some_iff.1 hfi
      have hbi := hb _ (List.getElem_mem hi)
      simp only [fileB, btwB, Bool.and_eq_true, decide_eq_true_eq] at hbi
      split
      · exact ⟨hf, hl, hs⟩
      · split
        · split
          · exact ⟨hf, hl, hs⟩
          · rename_i hc
            have hset := sumLen_set fs (posOf op.name fs) ⟨fs[posOf op.name fs].name, fs[posOf op.name fs].data ++ op.data, fs[posOf op.name fs].synced⟩ hi
            simp only [ByteArray.size_append] at hset
            refine ⟨filesB_of (fun g hg => ?_) (asc_set ha hi rfl), by simpa using hl, by simp only; omega⟩
            rcases mem_set_or hg with rfl | hg
            · exact fileB_mk hbi.1 hbi.2.1 (by rw [ByteArray.size_append]; omega)
            · exact hb _ hg
        · split
          · have hset := sumLen_set fs (posOf op.name fs) ⟨fs[posOf op.name fs].name, fs[posOf op.name fs].data, fs[posOf op.name fs].data.size⟩ hi
            simp only at hset
            refine ⟨filesB_of (fun g hg => ?_) (asc_set ha hi rfl), by simpa using hl, by simp only; omega⟩
            rcases mem_set_or hg with rfl | hg
            · exact fileB_mk hbi.1 (by omega) (by omega)
            · exact hb _ hg
          · split
            · split
              · rename_i hz
                simp only [btwB, Bool.and_eq_true, decide_eq_true_eq] at hz
                have hset := sumLen_set fs (posOf op.name fs) ⟨fs[posOf op.name fs].name, fs[posOf op.name fs].data.extract 0 op.size.toNat, op.size⟩ hi
                simp only at hset
                have hx : (fs[posOf op.name fs].data.extract 0 op.size.toNat).size = op.size.toNat := by rw [ByteArray.size_extract]; omega
                refine ⟨filesB_of (fun g hg => ?_) (asc_set ha hi rfl), by simpa using hl, by simp only; omega⟩
                rcases mem_set_or hg with rfl | hg
                · exact fileB_mk hbi.1 hz.1 (by rw [hx]; omega)
                · exact hb _ hg
              · exact ⟨hf, hl, hs⟩
            · exfalso; omega
theorem charge_valid {k cr fl : Int} {dn : Bool} (h0 : 0 ≤ k) (h1 : k ≤ 1000000000000000) : 0 ≤ (chargeR k cr fl dn).2.1 ∧ (chargeR k cr fl dn).2.1 ≤ 1000000000000000 := by
  unfold chargeR
  split
  · exact ⟨h0, h1⟩
  · split
    · exact ⟨h0, h1⟩
    · split
      · simp only; omega
      · split <;> (simp only; omega)
theorem diskB_step {fs : List FileD} {c k cr fl : Int} {dn : Bool} {op : OpD} (h : diskB fs c k cr fl = true) (ho : opB op = true) (hk : op.kind ≤ 4) :
    diskB (stepR fs c k cr fl dn op).2.1 c (stepR fs c k cr fl dn op).2.2.1 cr fl = true := by
  obtain ⟨h1, h2, h3, h4, h5, h6, h7, h8, h9, h10, h11⟩ := files_of_disk h
  have hop : nameB op.name = true ∧ 1 ≤ op.kind := by
    simp only [opB, btwB, Bool.and_eq_true, decide_eq_true_eq] at ho
    exact ⟨ho.1.2, ho.1.1.1⟩
  have hc := charge_valid (cr := cr) (fl := fl) (dn := dn) h6 h7
  unfold stepR
  split
  · obtain ⟨d1, d2, d3⟩ := do_valid (op := op) h1 h2 h5 hop.1 hk hop.2
    exact diskB_mk d2 d1 ⟨h3, h4⟩ d3 hc ⟨h8, h9⟩ ⟨h10, h11⟩
  · exact diskB_mk h2 h1 ⟨h3, h4⟩ h5 hc ⟨h8, h9⟩ ⟨h10, h11⟩
end Go.Proofs.YtboofidegpnkaaaGreatDoor
namespace Go.Proofs.YtboofidegpnkaaaGreatDoor
open Go.RowKit
def PowTab (w : World) : Prop := Lib.TabIs Tryz.prog w "internal/strconv.uint64pow10" .u64 Lib.pow10Tab
theorem PowTab.later {w w' : World} (h : PowTab w) (hb : Below w.heap.size w w') : PowTab w' := by
  unfold PowTab Lib.TabIs World.var? at h ⊢
  cases hg : Tryz.prog.globalNamed "internal/strconv.uint64pow10" with
  | none => rw [hg] at h; cases h
  | some g =>
    rw [hg] at h
    simp only [Option.bind_some] at h ⊢
    have hlt : g < w.heap.size := by
      rcases Nat.lt_or_ge g w.heap.size with h' | h'
      · exact h'
      · rw [Array.getElem?_eq_none h'] at h; cases h
    rw [hb.block g hlt]
    exact h
theorem segN_of (n : Nat) (h : n < 1000000) : (⟨#[119, 97, 108, 45]⟩ : ByteArray) ++ (⟨(Lib.itoa ((1000000 + n : Nat) : Int)).toArray⟩ : ByteArray).extract 1 7 = segN n := by
  rw [itoa_seg n h]
  apply ByteArray.ext
  simp [segN, segD]
set_option maxRecDepth 100000 in
set_option maxHeartbeats 1000000 in
theorem implSeg_any (n : Int) (w : World) (htab : PowTab w) :
    Calls Tryz.prog 47 #[.int .i64 n] w fun e w' => e = .returned (.string (segS n)) ∧ Below w.heap.size w w' := by
  by_cases h : 1 ≤ n ∧ n ≤ 999999
  · obtain ⟨N, rfl⟩ := Int.eq_ofNat_of_zero_le (show 0 ≤ n by omega)
    have E : Hid (segS N = segN N) := if_pos h
    have hN0 : 1 ≤ N := by omega
    have hN1 : N ≤ 999999 := by omega
    have HI : Hid (Calls Tryz.prog 67 #[.int .i64 (1000000 + (N : Int))] w fun e w' => e = .returned (.string ⟨(Lib.itoa ((1000000 + N : Nat) : Int)).toArray⟩) ∧ Below w.heap.size w w') :=
      (Tryz.strconv_Itoa ((1000000 + N : Nat) : Int) (by omega) (by omega) w htab).mono (by
        rintro e w' ⟨rfl, k, os, rfl⟩
        exact ⟨rfl, Lib.below_grow _ _ (Nat.le_refl _) _ _⟩)
    have HX : Hid ((⟨#[119, 97, 108, 45]⟩ : ByteArray) ++ (⟨(Lib.itoa ((1000000 + N : Nat) : Int)).toArray⟩ : ByteArray).extract 1 7 = segN N) := segN_of N (by omega)
    have hz : (⟨(Lib.itoa ((1000000 + N : Nat) : Int)).toArray⟩ : ByteArray).size = 7 := by
      rw [itoa_seg N (by omega)]; simp [segD, ByteArray.size]
    generalize (⟨(Lib.itoa ((1000000 + N : Nat) : Int)).toArray⟩ : ByteArray) = X at *
    clear h htab
    go_enter Tryz.func47, Tryz.ntmps47
    go_wp2_with fail
    refine HI.out.mono ?_
    rintro e w1 ⟨rfl, hb1⟩
    have HB : Hid (Below w.heap.size w w1) := hb1
    clear hb1
    go_wp2
    go_ret
    refine ⟨?_, HB.out⟩
    rw [E.out, ← HX.out]
    rfl
  · have E : Hid (segS n = ByteArray.empty) := if_neg h
    by_cases h1 : n < 1
    · go_enter Tryz.func47, Tryz.ntmps47
      go_wp2
      go_ret
      exact ⟨by rw [E.out]; rfl, Below.refl _ _⟩
    · have h2 : 999999 < n := by omega
      clear h
      go_enter Tryz.func47, Tryz.ntmps47
      go_wp2
      go_ret
      exact ⟨by rw [E.out]; rfl, Below.refl _ _⟩
end Go.Proofs.YtboofidegpnkaaaGreatDoor
namespace Go.Proofs.YtboofidegpnkaaaGreatDoor
open Go.RowKit
def crcSh (x : Nat) : Nat := if x % 2 = 1 then (x / 2) ^^^ 2197175160 else x / 2
def crcShs (x : Nat) : Nat → Nat
  | 0 => x
  | k + 1 => crcSh (crcShs x k)
def crcT (i : Nat) : Nat := crcShs i 8
theorem crcSh_lt {x : Nat} (h : x < 4294967296) : crcSh x < 4294967296 := by
  unfold crcSh
  split
  · exact Nat.xor_lt_two_pow (n := 32) (by omega) (by omega)
  · omega
theorem crcShs_lt {x : Nat} (h : x < 4294967296) : ∀ k, crcShs x k < 4294967296
  | 0 => h
  | k + 1 => crcSh_lt (crcShs_lt h k)
theorem crcT_lt {i : Nat} (h : i < 256) : crcT i < 4294967296 := crcShs_lt (by omega) 8
theorem xor_odd (a b : Nat) : (a ^^^ b) % 2 = (a + b) % 2 := by
  have := Nat.xor_mod_two_eq_one (a := a) (b := b)
  omega
theorem crcSh_bit (r x : Nat) : crcSh (r ^^^ x) = crcBit r x ^^^ (x / 2) := by
  unfold crcSh crcBit
  rw [xor_odd, Nat.xor_div_two]
  split
  · rw [Nat.xor_assoc, Nat.xor_comm (x / 2), ← Nat.xor_assoc]
  · rfl
theorem crcShs_bits (r b : Nat) : ∀ k, crcShs (r ^^^ b) k = crcBits r b k ^^^ (b / 2 ^ k)
  | 0 => by simp [crcShs, crcBits]
  | k + 1 => by
    show crcSh (crcShs (r ^^^ b) k) = crcBit (crcBits r b k) (b / 2 ^ k) ^^^ (b / 2 ^ (k + 1))
    rw [crcShs_bits r b k, crcSh_bit, Nat.div_div_eq_div_mul, Nat.pow_succ]
theorem crcSh_even (x z : Nat) : crcSh (x ^^^ (2 * z)) = crcSh x ^^^ z := by
  unfold crcSh
  rw [xor_odd, Nat.xor_div_two, show (x + 2 * z) % 2 = x % 2 by omega, show 2 * z / 2 = z by omega]
  split
  · rw [Nat.xor_assoc, Nat.xor_comm z, ← Nat.xor_assoc]
  · rfl
theorem crcShs_even (x z : Nat) : ∀ k, crcShs (x ^^^ (2 ^ k * z)) k = crcShs x k ^^^ z
  | 0 => by simp [crcShs]
  | k + 1 => by
    show crcSh (crcShs (x ^^^ (2 ^ (k + 1) * z)) k) = crcSh (crcShs x k) ^^^ z
    rw [Nat.pow_succ, Nat.mul_assoc, crcShs_even x (2 * z) k, crcSh_even]
theorem crc_parts (r : Nat) : r = (r % 256) ^^^ (256 * (r / 256)) := by
  have h : 256 * (r / 256) + r % 256 = (2 ^ 8 * (r / 256)) ||| (r % 256) := Nat.two_pow_add_eq_or_of_lt (i := 8) (b := r % 256) (by omega) (r / 256)
  have h2 : (r % 256) ^^^ (256 * (r / 256)) = (2 ^ 8 * (r / 256)) ||| (r % 256) := by
    apply Nat.eq_of_testBit_eq
    intro i
    rw [Nat.testBit_xor, Nat.testBit_or, show 256 * (r / 256) = 2 ^ 8 * (r / 256) from rfl, Nat.testBit_two_pow_mul, show r % 256 = r % 2 ^ 8 from rfl, Nat.testBit_mod_two_pow]
    by_cases hi : i < 8
    · simp [hi, Nat.not_le.2 hi]
    · simp [hi, Nat.not_lt.1 hi]
  omega
theorem crc_table (r b : Nat) (hb : b < 256) : crcBits r b 8 = (r / 256) ^^^ crcT ((r % 256) ^^^ b) := by
  have h1 := crcShs_bits r b 8
  rw [show b / 2 ^ 8 = 0 by omega, Nat.xor_zero] at h1
  rw [← h1]
  have h2 := crcShs_even ((r % 256) ^^^ b) (r / 256) 8
  rw [show ((r % 256) ^^^ b) ^^^ (2 ^ 8 * (r / 256)) = r ^^^ b by
    rw [Nat.xor_assoc, Nat.xor_comm b, ← Nat.xor_assoc, show (2 ^ 8 * (r / 256)) = 256 * (r / 256) from rfl, ← crc_parts r]] at h2
  rw [h2, Nat.xor_comm]; rfl
end Go.Proofs.YtboofidegpnkaaaGreatDoor
namespace Go.Proofs.YtboofidegpnkaaaGreatDoor
open Go.RowKit
theorem zero_tab : ∃ Z : Array Value, Z = Array.replicate 256 (.int .u32 0) ∧ ∀ w, (zeroValue 127).run Tryz.prog w = .ok (.agg Z) w := ⟨_, rfl, fun _ => by kernel_rfl⟩
theorem store_same (P : Program) (w : World) (Z : Array Value) (t : TypeId) (h1 : ∀ v ∈ Z.toList, v.oneCell' = true) :
    (storeCells ⟨w.heap.size, 0, none⟩ Z.toList).run P (w.alloc (.cells Z t)) = .ok () (w.alloc (.cells Z t)) := by
  have hg : (w.alloc (.cells Z t)).heap[w.heap.size]? = some (.cells Z t (0, 0)) := heap_alloc_new _ _
  have h := run_storeCells_from (P := P) w.heap.size t Z.toList 0 Z _ hg (by simp) h1
  rw [h]
  simp only [List.take_zero, List.nil_append, Array.toArray_toList]
  rw [setRow_self _ _ Z t (0, 0) hg]
theorem and_one_u32 (a : Nat) (ha : a < 4294967296) : bits .and .u32 (a : Int) 1 = ((a % 2 : Nat) : Int) := by
  show IntKind.u32.wrap ((BitVec.ofInt 32 (a : Int) &&& BitVec.ofInt 32 ((1 : Nat) : Int)).toNat : Int) = _
  rw [BitVec.toNat_and, BitVec.ofInt_natCast, BitVec.ofInt_natCast, BitVec.toNat_ofNat, BitVec.toNat_ofNat, Nat.mod_eq_of_lt (by omega), Nat.mod_eq_of_lt (by omega), Nat.and_one_is_mod]
  simp only [IntKind.wrap, IntKind.bits, IntKind.signed]
  simp
  omega
theorem xor_u32 (a b : Nat) (ha : a < 4294967296) (hb : b < 4294967296) : bits .xor .u32 (a : Int) (b : Int) = ((a ^^^ b : Nat) : Int) := by
  have hx : a ^^^ b < 2 ^ 32 := Nat.xor_lt_two_pow (by omega) (by omega)
  show IntKind.u32.wrap ((BitVec.ofInt 32 (a : Int) ^^^ BitVec.ofInt 32 (b : Int)).toNat : Int) = _
  rw [BitVec.toNat_xor, BitVec.ofInt_natCast, BitVec.ofInt_natCast, BitVec.toNat_ofNat, BitVec.toNat_ofNat, Nat.mod_eq_of_lt (by omega), Nat.mod_eq_of_lt (by omega)]
  simp only [IntKind.wrap, IntKind.bits, IntKind.signed]
  simp
  omega
set_option maxRecDepth 100000 in
set_option maxHeartbeats 1000000 in
theorem makeTab_any (w : World) :
    Calls Tryz.prog 68 #[] w fun e w' => ∃ b cur, e = .returned (.pointer (some ⟨b, 0, none⟩)) ∧ w.heap.size ≤ b ∧ Blk w' b cur 127 ∧ (∀ i, i < 256 → cur[i]? = some (.int .u32 (crcT i : Nat))) ∧ Below w.heap.size w w' := by
  obtain ⟨Z, hZ, hz⟩ := zero_tab
  have HZ : Hid (Z = Array.replicate 256 (.int .u32 0)) := hZ
  have hzs : Z.size = 256 := by rw [hZ]; simp
  have hst := store_same Tryz.prog w Z 127 (by rw [hZ]; simp [Value.oneCell'])
  have hB : Blk (w.alloc (.cells Z 127)) w.heap.size Z 127 := heap_alloc_new _ _
  have HB : Hid (Blk (w.alloc (.cells Z 127)) w.heap.size Z 127) := hB
  clear hZ hB
  go_enter Tryz.func68, Tryz.ntmps68
  go_wp2
  go_loopw [2, 3, 5] (fun _ _ c wr => ∃ (k : Nat) (cur : Array Value), k ≤ 256 ∧ c = .int .i64 k ∧ Hid (Blk wr w.heap.size cur 127) ∧ cur.size = 256 ∧ Hid (∀ i, i < k → cur[i]? = some (.int .u32 (crcT i : Nat))) ∧ Hid (Below w.heap.size w wr)) (fun _ _ c _ => 256 - (intOf c).toNat)
  case atStart => exact ⟨0, Z, by omega, rfl, HB, hzs, fun i hi => absurd hi (by omega), bnew _ _⟩
  case round =>
    obtain ⟨k, cur, hk, rfl, hblk, hcs, hcur, hbel⟩ := hrel
    by_cases hlt : k < 256
    · go_wp2
      go_loop [3, 10] (fun x c => ∃ (j X : Nat), j ≤ 8 ∧ c = .int .i64 j ∧ x = .int .u32 X ∧ X < 4294967296 ∧ Hid (X = crcShs k j)) (fun _ c => 8 - (intOf c).toNat)
      case atStart => exact ⟨0, k, by omega, rfl, by go_num, by omega, rfl⟩
      case round =>
        obtain ⟨j, X, hj, rfl, rfl, hX, hx⟩ := hrel
        have ha := and_one_u32 X hX
        have hxr := xor_u32 (X / 2) 2197175160 (by omega) (by omega)
        by_cases h8 : j < 8
        · by_cases hodd : X % 2 = 1
          · rw [hodd] at ha
            go_wp2
            refine ⟨⟨j + 1, (X / 2) ^^^ 2197175160, by omega, by go_num, ?_, Nat.xor_lt_two_pow (n := 32) (by omega) (by omega), ?_⟩, by simp [intOf]; omega⟩
            · rw [← hxr]; congr 2
            · show _ = _
              rw [crcShs, ← hx.out, crcSh, if_pos hodd]
          · have h0 : X % 2 = 0 := by omega
            rw [h0] at ha
            go_wp2
            refine ⟨⟨j + 1, X / 2, by omega, by go_num, ?_, by omega, ?_⟩, by simp [intOf]; omega⟩
            · go_num
            · show _ = _
              rw [crcShs, ← hx.out, crcSh, if_neg hodd]
        · have e : j = 8 := by omega
          subst e
          have hc : wr.cell? ⟨w.heap.size, k, none⟩ = some (cur[k]'(by omega)) := by rw [hblk.out.cell]; exact Array.getElem?_eq_getElem _
          have hf := hblk.out.free k
          go_wp2
          refine ⟨⟨k + 1, cur.setIfInBounds k (.int .u32 X), by omega, by go_num, hblk.out.set k _, by simp [hcs], ?_, ?_⟩, by simp [intOf]; omega⟩
          · intro i hi
            rw [Array.getElem?_setIfInBounds]
            split
            · rename_i e
              subst e
              rw [if_pos (by omega), hx.out]
              rfl
            · exact hcur.out i (by omega)
          · exact hbel.out.setCell (p := ⟨w.heap.size, k, none⟩) (Nat.le_refl _) _
    · have e : k = 256 := by omega
      subst e
      go_wp2
      go_ret
      exact ⟨w.heap.size, cur, rfl, Nat.le_refl _, hblk.out, hcur.out, hbel.out⟩
end Go.Proofs.YtboofidegpnkaaaGreatDoor
