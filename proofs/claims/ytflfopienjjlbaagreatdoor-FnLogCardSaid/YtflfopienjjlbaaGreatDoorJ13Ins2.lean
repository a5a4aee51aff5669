import Derived.Test.YtflfopienjjlbaaGreatDoorProg
import Derived.Test.YtflfopienjjlbaaGreatDoorJ12Code
import Derived.Test.YtflfopienjjlbaaGreatDoorJ09ITab
import Derived.Test.YtflfopienjjlbaaGreatDoorJ05Dv
import Derived.Deep.RegionLaw
import Derived.Maps.AppendAt
import Derived.Lib.AppendZerosOnto
namespace Go.Proofs.YtflfopienjjlbaaGreatDoor
open Go.RowKit

def tCorrupt : ByteArray := ⟨#[97, 32, 115, 101, 103, 109, 101, 110, 116, 32, 97, 104, 101, 97, 100, 32, 111, 102, 32, 116, 104, 101, 32, 108, 97, 115, 116, 32, 105, 115, 32, 116, 111, 114, 110]⟩
def tGap : ByteArray := ⟨#[116, 104, 101, 32, 115, 101, 103, 109, 101, 110, 116, 115, 32, 97, 114, 101, 32, 110, 111, 32, 108, 111, 103]⟩
def tTooBig : ByteArray := ⟨#[116, 104, 101, 32, 112, 97, 121, 108, 111, 97, 100, 32, 104, 97, 115, 32, 110, 111, 32, 102, 114, 97, 109, 101]⟩
def tEnd : ByteArray := ⟨#[116, 104, 101, 32, 108, 111, 103, 32, 104, 97, 115, 32, 110, 111, 32, 115, 101, 103, 109, 101, 110, 116, 115, 32, 108, 101, 102, 116]⟩

/-- The error of a log's code. -/
def errW (code : Nat) : Value := match code with
  | 20 => .iface 103 (.string tCorrupt)
  | 21 => .iface 103 (.string tGap)
  | 22 => .iface 103 (.string tTooBig)
  | 23 => .iface 103 (.string tEnd)
  | c => errV c

theorem run_eql_nil_iface {P : Program} (w : World) {t tx : TypeId} {ms : Array (String × TypeId)} (b : ByteArray) (ht : P.underlying t = some (.interface ms)) :
    (binOp .eql t .nilIface (.iface tx (.string b))).run P w = .ok (.bool false) w := by
  have h : ∀ d : Nat, (Op.equalIn (d + 2) t .nilIface (.iface tx (.string b))).run P w = .ok false w := fun d => by
    simp [Op.equalIn, run_underlying ht]
  simp only [binOp]
  simp [Op.equal, Op.maxDepth, h 9998]

set_option maxHeartbeats 1000000 in
set_option maxRecDepth 100000 in
theorem is_nil (b : ByteArray) (w : World) :
    Calls Tryz.prog 68 #[.nilIface, .iface 103 (.string b)] w fun e w' => e = .returned (.bool false) ∧ w' = w := by
  have heq : (binOp .eql 70 .nilIface (.iface 103 (.string b))).run Tryz.prog w = .ok (.bool false) w := run_eql_nil_iface w b Tryz.underlying70
  go_enter Tryz.func68, Tryz.ntmps68
  go_wp2
  go_ret
  exact ⟨rfl, rfl⟩
theorem is_not (code : Nat) (h : code ≤ 6) (b : ByteArray) (w : World) (h1 : (tDown == b) = false) (h2 : (tFailed == b) = false) (h3 : (tFull == b) = false) (h4 : (tMissing == b) = false) (h5 : (tExists == b) = false) (h6 : (tBad == b) = false) :
    Calls Tryz.prog 68 #[errV code, .iface 103 (.string b)] w fun e w' => e = .returned (.bool false) ∧ w' = w := by
  match code, h with
  | 0, _ => exact is_nil b w
  | 1, _ => exact is_any _ _ false h1 w
  | 2, _ => exact is_any _ _ false h2 w
  | 3, _ => exact is_any _ _ false h3 w
  | 4, _ => exact is_any _ _ false h4 w
  | 5, _ => exact is_any _ _ false h5 w
  | 6, _ => exact is_any _ _ false h6 w

set_option maxHeartbeats 400000 in
theorem logCode_disk (code : Nat) (h : code ≤ 6) (w : World) : Calls Tryz.prog 37 #[errV code] w fun e w' => e = .returned (.int .i64 code) ∧ w' = w := by
  have H1 : Hid (∀ W, Calls Tryz.prog 68 #[errV code, .iface 103 (.string tCorrupt)] W fun e w' => e = .returned (.bool false) ∧ w' = W) := fun W => is_not code h _ W (by kernel_rfl) (by kernel_rfl) (by kernel_rfl) (by kernel_rfl) (by kernel_rfl) (by kernel_rfl)
  have H2 : Hid (∀ W, Calls Tryz.prog 68 #[errV code, .iface 103 (.string tGap)] W fun e w' => e = .returned (.bool false) ∧ w' = W) := fun W => is_not code h _ W (by kernel_rfl) (by kernel_rfl) (by kernel_rfl) (by kernel_rfl) (by kernel_rfl) (by kernel_rfl)
  have H3 : Hid (∀ W, Calls Tryz.prog 68 #[errV code, .iface 103 (.string tTooBig)] W fun e w' => e = .returned (.bool false) ∧ w' = W) := fun W => is_not code h _ W (by kernel_rfl) (by kernel_rfl) (by kernel_rfl) (by kernel_rfl) (by kernel_rfl) (by kernel_rfl)
  have H4 : Hid (∀ W, Calls Tryz.prog 68 #[errV code, .iface 103 (.string tEnd)] W fun e w' => e = .returned (.bool false) ∧ w' = W) := fun W => is_not code h _ W (by kernel_rfl) (by kernel_rfl) (by kernel_rfl) (by kernel_rfl) (by kernel_rfl) (by kernel_rfl)
  have H5 : Hid (∀ W, Calls Tryz.prog 50 #[errV code] W fun e w' => e = .returned (.int .i64 code) ∧ w' = W) := fun W => code_any code h W
  generalize errV code = E at *
  go_enter Tryz.func37, Tryz.ntmps37
  go_wp2_with fail
  refine (H1.out _).mono ?_
  rintro e w' ⟨rfl, hw⟩; replace hw := hw.symm; subst hw
  go_wp2_with fail
  refine (H2.out _).mono ?_
  rintro e w' ⟨rfl, hw⟩; replace hw := hw.symm; subst hw
  go_wp2_with fail
  refine (H3.out _).mono ?_
  rintro e w' ⟨rfl, hw⟩; replace hw := hw.symm; subst hw
  go_wp2_with fail
  refine (H4.out _).mono ?_
  rintro e w' ⟨rfl, hw⟩; replace hw := hw.symm; subst hw
  go_wp2_with fail
  refine (H5.out _).mono ?_
  rintro e w' ⟨rfl, hw⟩; replace hw := hw.symm; subst hw
  go_wp2
  go_ret
  exact ⟨rfl, rfl⟩

set_option maxHeartbeats 400000 in
theorem logCode_Corrupt (w : World) : Calls Tryz.prog 37 #[.iface 103 (.string tCorrupt)] w fun e w' => e = .returned (.int .i64 20) ∧ w' = w := by
  go_enter Tryz.func37, Tryz.ntmps37
  go_wp2_with fail
  refine (is_any _ _ true (by kernel_rfl) _).mono ?_
  rintro e w' ⟨rfl, rfl⟩
  go_wp2
  go_ret
  exact ⟨rfl, rfl⟩

set_option maxHeartbeats 400000 in
theorem logCode_Gap (w : World) : Calls Tryz.prog 37 #[.iface 103 (.string tGap)] w fun e w' => e = .returned (.int .i64 21) ∧ w' = w := by
  go_enter Tryz.func37, Tryz.ntmps37
  go_wp2_with fail
  refine (is_any _ _ false (by kernel_rfl) _).mono ?_
  rintro e w' ⟨rfl, rfl⟩
  go_wp2_with fail
  refine (is_any _ _ true (by kernel_rfl) _).mono ?_
  rintro e w' ⟨rfl, rfl⟩
  go_wp2
  go_ret
  exact ⟨rfl, rfl⟩

set_option maxHeartbeats 400000 in
theorem logCode_TooBig (w : World) : Calls Tryz.prog 37 #[.iface 103 (.string tTooBig)] w fun e w' => e = .returned (.int .i64 22) ∧ w' = w := by
  go_enter Tryz.func37, Tryz.ntmps37
  go_wp2_with fail
  refine (is_any _ _ false (by kernel_rfl) _).mono ?_
  rintro e w' ⟨rfl, rfl⟩
  go_wp2_with fail
  refine (is_any _ _ false (by kernel_rfl) _).mono ?_
  rintro e w' ⟨rfl, rfl⟩
  go_wp2_with fail
  refine (is_any _ _ true (by kernel_rfl) _).mono ?_
  rintro e w' ⟨rfl, rfl⟩
  go_wp2
  go_ret
  exact ⟨rfl, rfl⟩

set_option maxHeartbeats 400000 in
theorem logCode_End (w : World) : Calls Tryz.prog 37 #[.iface 103 (.string tEnd)] w fun e w' => e = .returned (.int .i64 23) ∧ w' = w := by
  go_enter Tryz.func37, Tryz.ntmps37
  go_wp2_with fail
  refine (is_any _ _ false (by kernel_rfl) _).mono ?_
  rintro e w' ⟨rfl, rfl⟩
  go_wp2_with fail
  refine (is_any _ _ false (by kernel_rfl) _).mono ?_
  rintro e w' ⟨rfl, rfl⟩
  go_wp2_with fail
  refine (is_any _ _ false (by kernel_rfl) _).mono ?_
  rintro e w' ⟨rfl, rfl⟩
  go_wp2_with fail
  refine (is_any _ _ true (by kernel_rfl) _).mono ?_
  rintro e w' ⟨rfl, rfl⟩
  go_wp2
  go_ret
  exact ⟨rfl, rfl⟩

theorem logCode_any (code : Nat) (h : code ≤ 6 ∨ code = 20 ∨ code = 21 ∨ code = 22 ∨ code = 23) (w : World) : Calls Tryz.prog 37 #[errW code] w fun e w' => e = .returned (.int .i64 code) ∧ w' = w := by
  rcases h with h | rfl | rfl | rfl | rfl
  rotate_left
  · exact logCode_Corrupt w
  · exact logCode_Gap w
  · exact logCode_TooBig w
  · exact logCode_End w
  match code, h with
  | 0, _ => exact logCode_disk 0 (by omega) w
  | 1, _ => exact logCode_disk 1 (by omega) w
  | 2, _ => exact logCode_disk 2 (by omega) w
  | 3, _ => exact logCode_disk 3 (by omega) w
  | 4, _ => exact logCode_disk 4 (by omega) w
  | 5, _ => exact logCode_disk 5 (by omega) w
  | 6, _ => exact logCode_disk 6 (by omega) w
theorem errW_disk {code : Nat} (h : code ≤ 6) : errW code = errV code := by
  match code, h with
  | 0, _ => rfl
  | 1, _ => rfl
  | 2, _ => rfl
  | 3, _ => rfl
  | 4, _ => rfl
  | 5, _ => rfl
  | 6, _ => rfl
end Go.Proofs.YtflfopienjjlbaaGreatDoor

namespace Go.Proofs.YtflfopienjjlbaaGreatDoor
open Go.RowKit

/-- What the segment n holds. -/
def datAt (fs : List FileD) (n : Int) : ByteArray := (fs[posOf (segS n) fs]?.map (·.data)).getD ByteArray.empty
theorem datAt_eq {fs : List FileD} {i : Nat} {n : Int} (ha : Asc fs) (hi : i < fs.length) (hn : fs[i].name = segS n) : datAt fs n = fs[i].data := by
  have e : posOf (segS n) fs = i := by rw [← hn]; exact (posOf_is _ ha).uniq (pos_at ha hi)
  unfold datAt
  rw [e, List.getElem?_eq_getElem hi]
  rfl
/-- The segments read from n on, r of them left: the payloads and the last one's whole size; none where one ahead of the last is torn. -/
def readR (fs : List FileD) (last : Int) : Nat → Int → List ByteArray → Nat → Option (List ByteArray × Nat)
  | 0, _, all, sz => some (all, sz)
  | r + 1, n, all, _ => if (scanV (datAt fs n)).2 < (datAt fs n).size ∧ n < last then none else readR fs last r (n + 1) (all ++ (scanV (datAt fs n)).1) (scanV (datAt fs n)).2
theorem row_but {w w' : World} {B P : Nat} {e : TypeId} {size : Nat} {v : Value} {n : Nat} {xs : List Value} (h : w.ownsRow B e size v n xs) (hb : But P w w') (hP : P < B) : w'.ownsRow B e size v n xs := by
  obtain ⟨h0, h1⟩ := h
  refine ⟨h0, ?_⟩
  rcases h1 with h1 | ⟨g, cap, cur, e1, hB, hg, h2⟩
  · exact Or.inl h1
  · exact Or.inr ⟨g, cap, cur, e1, hB, (hb.block g (lt_of_block hg) (by omega)).trans hg, h2⟩
theorem scanR_len (d : ByteArray) : ∀ n p, (scanR d n p).1.length ≤ n
  | 0, p => by simp [scanR]
  | n + 1, p => by
    rw [scanR]
    split
    · have := scanR_len d n (p + 8 + ((d.extract p d.size).extract 8 (8 + headN (d.extract p d.size))).size)
      exact Nat.succ_le_succ this
    · simp
theorem scanV_len (d : ByteArray) : (scanV d).1.length ≤ d.size + 1 := scanR_len d _ _
/-- What readAll answers. -/
def ReadPost (P D : Nat) (first last : Int) (w : World) (R : Option (List ByteArray × Nat)) (e : Ending) (w' : World) : Prop :=
  But P w w' ∧ match R with
  | none => e = .returned (.tuple #[.slice none 0 0, errW 20]) ∧ ∃ sz : Nat, Blk w' P #[.pointer (some ⟨D, 0, none⟩), .int .i64 first, .int .i64 last, .int .i64 (sz : Nat)] 68
  | some (all, sz) => (∃ a' cap', e = .returned (.tuple #[.slice a' all.length cap', .nilIface]) ∧ w'.ownsRow w.heap.size 9 1 (.slice a' all.length cap') all.length (all.map Value.string)) ∧ Blk w' P #[.pointer (some ⟨D, 0, none⟩), .int .i64 first, .int .i64 last, .int .i64 (sz : Nat)] 68
end Go.Proofs.YtflfopienjjlbaaGreatDoor

namespace Go.Proofs.YtflfopienjjlbaaGreatDoor
open Go.RowKit

/-- What the meter answers: the code, the count behind it, whether the disk is down. -/
def chargeR (k cr fl : Int) (dn : Bool) : Nat × Int × Bool :=
  if dn = true then (1, k, true) else if k = 1000000000000000 then (2, k, false) else if cr ≠ 0 ∧ k + 1 = cr then (1, k + 1, true) else if fl ≠ 0 ∧ k + 1 = fl then (2, k + 1, false) else (0, k + 1, false)

set_option maxRecDepth 100000 in
set_option maxHeartbeats 1000000 in
theorem charge_any (D : Nat) (t : TypeId) (v4 v5 : Value) (k cr fl : Int) (dn : Bool) (w : World) (hb : Blk w D #[.int .i64 k, .int .i64 cr, .int .i64 fl, .bool dn, v4, v5] t) (hk0 : 0 ≤ k) (hk1 : k ≤ 1000000000000000) :
    Calls Tryz.prog 77 #[.pointer (some ⟨D, 0, none⟩)] w fun e w' => e = .returned (errV (chargeR k cr fl dn).1) ∧ But D w w' ∧ Blk w' D #[.int .i64 (chargeR k cr fl dn).2.1, .int .i64 cr, .int .i64 fl, .bool (chargeR k cr fl dn).2.2, v4, v5] t := by
  have c0 := hb.cell 0
  have c3 := hb.cell 3
  simp only [List.getElem?_toArray, List.getElem?_cons_zero, List.getElem?_cons_succ] at c0 c3
  have f0 := hb.free 0
  cases dn with
  | true =>
    have HB : Hid (Blk w D #[.int .i64 k, .int .i64 cr, .int .i64 fl, .bool true, v4, v5] t) := hb
    clear hb
    go_enter Tryz.func77, Tryz.ntmps77
    go_wp2
    go_ret
    exact ⟨rfl, But.refl _ _, HB.out⟩
  | false =>
    by_cases hm : k = 1000000000000000
    · subst hm
      have HB : Hid (Blk w D #[.int .i64 1000000000000000, .int .i64 cr, .int .i64 fl, .bool false, v4, v5] t) := hb
      clear hb
      go_enter Tryz.func77, Tryz.ntmps77
      go_wp2
      go_ret
      exact ⟨rfl, But.refl _ _, HB.out⟩
    · have hb1 := hb.set 0 (.int .i64 (k + 1))
      have HB : Hid (Blk w D #[.int .i64 k, .int .i64 cr, .int .i64 fl, .bool false, v4, v5] t) := hb
      have HB1 : Hid (Blk (w.setCell ⟨D, 0, none⟩ (.int .i64 (k + 1))) D #[.int .i64 (k + 1), .int .i64 cr, .int .i64 fl, .bool false, v4, v5] t) := by show Blk _ _ _ _; simpa using hb1
      clear hb hb1
      have d0 := HB1.out.cell 0
      have d1 := HB1.out.cell 1
      have d2 := HB1.out.cell 2
      have d3 := HB1.out.cell 3
      simp only [List.getElem?_toArray, List.getElem?_cons_zero, List.getElem?_cons_succ] at d0 d1 d2 d3
      have e3 := HB1.out.free 3
      have HBut : Hid (But D w (w.setCell ⟨D, 0, none⟩ (.int .i64 (k + 1)))) := (But.refl _ _).setCell _ _
      have hw1 : IntKind.i64.wrap (k + 1) = k + 1 := by rw [IntKind.wrap_i64]; omega
      by_cases hc : cr = 0
      · subst hc
        by_cases hf : fl = 0
        · subst hf
          have E : Hid (chargeR k 0 0 false = (0, k + 1, false)) := by show _ = _; simp [chargeR, hm]
          go_enter Tryz.func77, Tryz.ntmps77
          go_wp2_with fail
          go_quiet (fail)
          go_wp2_with fail
          go_quiet (fail)
          go_wp2
          go_ret
          rw [E.out]
          first | exact ⟨rfl, HBut.out.trans (But.of (below_drewN (below_drewN (Below.refl _ _) _) _)), HB1.out.later (below_drewN (below_drewN (Below.refl _ _) _) _)⟩ | exact ⟨rfl, HBut.out.trans (But.of (below_drewN (Below.refl _ _) _)), HB1.out.later (below_drewN (Below.refl _ _) _)⟩
        · have hf1 : decide (fl = 0) = false := by simpa using hf
          by_cases hf2 : k + 1 = fl
          · subst hf2
            have E : Hid (chargeR k 0 (k + 1) false = (2, k + 1, false)) := by show _ = _; simp [chargeR, hm, hf]
            go_enter Tryz.func77, Tryz.ntmps77
            go_wp2_with fail
            go_quiet (fail)
            go_wp2_with fail
            go_quiet (fail)
            go_wp2
            go_ret
            rw [E.out]
            first | exact ⟨rfl, HBut.out.trans (But.of (below_drewN (below_drewN (Below.refl _ _) _) _)), HB1.out.later (below_drewN (below_drewN (Below.refl _ _) _) _)⟩ | exact ⟨rfl, HBut.out.trans (But.of (below_drewN (Below.refl _ _) _)), HB1.out.later (below_drewN (Below.refl _ _) _)⟩
          · have hf3 : (k + 1 == fl) = false := by simpa using hf2
            have E : Hid (chargeR k 0 fl false = (0, k + 1, false)) := by show _ = _; simp [chargeR, hm, hf, hf2]
            go_enter Tryz.func77, Tryz.ntmps77
            go_wp2_with fail
            go_quiet (fail)
            go_wp2_with fail
            go_quiet (fail)
            go_wp2
            go_ret
            rw [E.out]
            first | exact ⟨rfl, HBut.out.trans (But.of (below_drewN (below_drewN (Below.refl _ _) _) _)), HB1.out.later (below_drewN (below_drewN (Below.refl _ _) _) _)⟩ | exact ⟨rfl, HBut.out.trans (But.of (below_drewN (Below.refl _ _) _)), HB1.out.later (below_drewN (Below.refl _ _) _)⟩
      · have hc1 : decide (cr = 0) = false := by simpa using hc
        by_cases hc2 : k + 1 = cr
        · subst hc2
          have E : Hid (chargeR k (k + 1) fl false = (1, k + 1, true)) := by show _ = _; simp [chargeR, hm, hc]
          go_enter Tryz.func77, Tryz.ntmps77
          go_wp2_with fail
          go_quiet (fail)
          go_wp2
          go_ret
          rw [E.out]
          refine ⟨rfl, (HBut.out.trans (But.of (below_drewN (Below.refl _ _) _))).setCell _ _, ?_⟩
          have := (HB1.out.later (below_drewN (Below.refl _ _) nq)).set 3 (.bool true)
          simpa using this
        · have hc3 : (k + 1 == cr) = false := by simpa using hc2
          by_cases hf : fl = 0
          · subst hf
            have E : Hid (chargeR k cr 0 false = (0, k + 1, false)) := by show _ = _; simp [chargeR, hm, hc, hc2]
            go_enter Tryz.func77, Tryz.ntmps77
            go_wp2_with fail
            go_quiet (fail)
            go_wp2_with fail
            go_quiet (fail)
            go_wp2
            go_ret
            rw [E.out]
            first | exact ⟨rfl, HBut.out.trans (But.of (below_drewN (below_drewN (Below.refl _ _) _) _)), HB1.out.later (below_drewN (below_drewN (Below.refl _ _) _) _)⟩ | exact ⟨rfl, HBut.out.trans (But.of (below_drewN (Below.refl _ _) _)), HB1.out.later (below_drewN (Below.refl _ _) _)⟩
          · have hf1 : decide (fl = 0) = false := by simpa using hf
            by_cases hf2 : k + 1 = fl
            · subst hf2
              have E : Hid (chargeR k cr (k + 1) false = (2, k + 1, false)) := by show _ = _; simp [chargeR, hm, hc, hc2, hf]
              go_enter Tryz.func77, Tryz.ntmps77
              go_wp2_with fail
              go_quiet (fail)
              go_wp2_with fail
              go_quiet (fail)
              go_wp2
              go_ret
              rw [E.out]
              first | exact ⟨rfl, HBut.out.trans (But.of (below_drewN (below_drewN (Below.refl _ _) _) _)), HB1.out.later (below_drewN (below_drewN (Below.refl _ _) _) _)⟩ | exact ⟨rfl, HBut.out.trans (But.of (below_drewN (Below.refl _ _) _)), HB1.out.later (below_drewN (Below.refl _ _) _)⟩
            · have hf3 : (k + 1 == fl) = false := by simpa using hf2
              have E : Hid (chargeR k cr fl false = (0, k + 1, false)) := by show _ = _; simp [chargeR, hm, hc, hc2, hf, hf2]
              go_enter Tryz.func77, Tryz.ntmps77
              go_wp2_with fail
              go_quiet (fail)
              go_wp2_with fail
              go_quiet (fail)
              go_wp2
              go_ret
              rw [E.out]
              first | exact ⟨rfl, HBut.out.trans (But.of (below_drewN (below_drewN (Below.refl _ _) _) _)), HB1.out.later (below_drewN (below_drewN (Below.refl _ _) _) _)⟩ | exact ⟨rfl, HBut.out.trans (But.of (below_drewN (Below.refl _ _) _)), HB1.out.later (below_drewN (Below.refl _ _) _)⟩
end Go.Proofs.YtflfopienjjlbaaGreatDoor

namespace Go.Proofs.YtflfopienjjlbaaGreatDoor
open Go.RowKit

structure OpD where
  kind : Int
  name : ByteArray
  to : ByteArray
  data : ByteArray
  size : Int

def opB (op : OpD) : Bool := btwB op.kind 1 6 && nameB op.name && (decide (op.kind ≠ 5) || nameB op.to)

/-- What an operation does to the files: its code, the files behind it. -/
def doR (fs : List FileD) (c : Int) (op : OpD) : Nat × List FileD :=
  let i := posOf op.name fs
  if op.kind = 1 then (if hasB fs op.name i = true then (5, fs) else if 1000 ≤ fs.length then (3, fs) else (0, insL fs i ⟨op.name, ByteArray.empty, 0⟩))
  else match fs[i]? with
    | none => (4, fs)
    | some f =>
      if hasB fs op.name i = false then (4, fs)
      else if op.kind = 2 then (if c < sumLen fs + op.data.size then (3, fs) else (0, fs.set i ⟨f.name, f.data ++ op.data, f.synced⟩))
      else if op.kind = 3 then (0, fs.set i ⟨f.name, f.data, f.data.size⟩)
      else if op.kind = 4 then (if btwB op.size 0 f.data.size = true then (0, fs.set i ⟨f.name, f.data.extract 0 op.size.toNat, op.size⟩) else (6, fs))
      else if op.kind = 5 then (0, withL (fs.eraseIdx i) ⟨op.to, f.data, f.synced⟩)
      else (0, fs.eraseIdx i)

theorem isFileName_is {s : ByteArray} {b : Bool} (h : nameB s = b) (w : World) (hs : s.size ≤ maxLen) : Calls Tryz.prog 76 #[.string s] w fun e w' => e = .returned (.bool b) ∧ w' = w := h ▸ isFileName_any s w hs

/-- The five cells of an operation lie at the head of block b. -/
def OpAt (w : World) (b : Nat) (op : OpD) (t : TypeId) : Prop := Blk w b #[.int .i64 op.kind, .string op.name, .string op.to, .string op.data, .int .i64 op.size] t

theorem OpAt.cells {w : World} {b : Nat} {op : OpD} {t : TypeId} (h : OpAt w b op t) : w.cell? ⟨b, 0, none⟩ = some (.int .i64 op.kind) ∧ w.cell? ⟨b, 1, none⟩ = some (.string op.name) ∧ w.cell? ⟨b, 2, none⟩ = some (.string op.to) ∧ w.cell? ⟨b, 3, none⟩ = some (.string op.data) ∧ w.cell? ⟨b, 4, none⟩ = some (.int .i64 op.size) := by
  refine ⟨?_, ?_, ?_, ?_, ?_⟩ <;> rw [Blk.cell h] <;> rfl

end Go.Proofs.YtflfopienjjlbaaGreatDoor

namespace Go.Proofs.YtflfopienjjlbaaGreatDoor
open Go.RowKit

set_option maxHeartbeats 4000000 in
set_option maxRecDepth 1000000 in
theorem delete_any (B g cap i : Nat) (fs : List FileD) (w : World) (hown : w.ownsRow B 59 3 (.slice (some ⟨g, 0, none⟩) fs.length cap) fs.length (flat fs)) (hi : i < fs.length) (hlen : fs.length ≤ 1048576) :
    Calls Tryz.prog 102 #[.slice (some ⟨g, 0, none⟩) fs.length cap, .int .i64 i, .int .i64 ((i : Int) + 1)] w fun e w' =>
      e = .returned (.slice (some ⟨g, 0, none⟩) (fs.length - 1) cap) ∧ w'.ownsRow B 59 3 (.slice (some ⟨g, 0, none⟩) (fs.length - 1) cap) (fs.length - 1) (flat (fs.eraseIdx i)) ∧ Keeps (fun k => k = g) w w' := by
  obtain ⟨cur, hB, _, hblk, hnc, hcm, hsz, hcs⟩ := cells_of_row hown
  obtain ⟨i0, hi0, hz0, hz1, hz2⟩ := info_filex
  obtain ⟨n, hn⟩ : ∃ n, fs.length = n := ⟨_, rfl⟩
  obtain ⟨news, hnews⟩ : ∃ news, news = flat (fs.drop (i + 1)) := ⟨_, rfl⟩
  have hlenN : news.length = (n - (i + 1)) * 3 := by rw [hnews, flat_length, List.length_drop, hn]
  have hfl : (flat fs).length = n * 3 := by rw [flat_length, hn]
  have hthere : ∀ j, j < n * 3 → (w.cell? ⟨g, j, none⟩).isSome = true := fun j hj => by rw [hcs j _ (List.getElem?_eq_getElem (by omega))]; rfl
  obtain ⟨A, hA, hsrc⟩ : ∃ A : Addr, (if cap = i + 1 then some (⟨g, 0, none⟩ : Addr) else some ⟨g, (i + 1) * 3, none⟩) = some A ∧ Hid (∀ j u, news[j]? = some u → w.drew.cell? (A.add j) = some u) := by
    by_cases h : cap = i + 1
    · refine ⟨⟨g, 0, none⟩, by simp [h], fun j u hu => ?_⟩
      have h0 : news.length = 0 := by rw [hlenN]; omega
      rw [List.length_eq_zero_iff.1 h0] at hu
      simp at hu
    · refine ⟨⟨g, (i + 1) * 3, none⟩, by simp [h], fun j u hu => ?_⟩
      rw [hnews, flat_drop_get fs (i + 1) j (by omega)] at hu
      rw [Addr.add_lit]
      exact hcs _ _ hu
  have s1 : Hid (news.length = (n - (i + 1)) * 3) := hlenN
  have s2 : Hid (∀ u ∈ news, u.oneCell' = true) := by rw [hnews]; exact flat_one_cell _
  have s3 : Hid (∀ j, j < news.length → (w.drew.cell? ⟨g, 0 + i * 3 + j, none⟩).isSome = true ∧ w.drew.frozen? ⟨g, 0 + i * 3 + j, none⟩ = false) := by
    intro j hj
    rw [hlenN] at hj
    exact ⟨hthere _ (by omega), hblk.free _⟩
  obtain ⟨W1, hW1⟩ : ∃ W1, W1 = w.drew.setCells g (0 + i * 3) news := ⟨_, rfl⟩
  have hblk1 : Blk w.drew g cur 59 := hblk
  obtain ⟨cur1, hb1, hs1⟩ := Blk.setCells news (0 + i * 3) hblk1
  rw [← hW1] at hb1
  have hcl : ∀ ty c, (Builtin.clear_ #[26] ty #[.slice (some ⟨g, (n - 1) * 3, none⟩) 1 c]).run Tryz.prog W1 = .ok (.tuple #[]) (W1.setCells g ((n - 1) * 3) zeroF) := fun ty c =>
    run_clear_one W1 _ ty _ i0 Tryz.underlying26 hi0 hz0 g _ c (fun j hj => by obtain ⟨v, hv⟩ := hb1.there (j := (n - 1) * 3 + j) (by rw [hs1, hsz]; omega); rw [hv]; rfl) (fun j _ => hb1.free _)
  obtain ⟨cur2, hb2, hs2⟩ := Blk.setCells zeroF ((n - 1) * 3) hb1
  have HK : Hid (Keeps (fun k => k = g) w (W1.setCells g ((n - 1) * 3) zeroF)) := by
    show Keeps _ _ _
    rw [hW1]
    exact Keeps.setCells (S := fun k => k = g) rfl _ _ (Keeps.setCells (S := fun k => k = g) rfl _ _ (Keeps.refl _ _).drew)
  have HO : Hid ((W1.setCells g ((n - 1) * 3) zeroF).ownsRow B 59 3 (.slice (some ⟨g, 0, none⟩) (n - 1) cap) (n - 1) (flat (fs.eraseIdx i))) := by
    refine row_of_cells hB hb2 (by omega) hcm (by rw [hs2, hs1, hsz]) (by rw [flat_length, List.length_eraseIdx, if_pos hi, hn]) fun j u hu => ?_
    have hjl := (List.getElem?_eq_some_iff.1 hu).1
    rw [flat_length, List.length_eraseIdx, if_pos hi, hn] at hjl
    rw [World.cell?_setCells_out g zeroF ((n - 1) * 3) W1 _ (fun _ _ => Or.inl (by show j < _; omega)), hW1]
    rw [erase_flat] at hu
    have htl : (flat (fs.take i)).length = i * 3 := by rw [flat_length, List.length_take]; omega
    by_cases hji : j < i * 3
    · rw [World.cell?_setCells_out g news (0 + i * 3) _ _ (fun _ _ => Or.inl (by show j < _; omega))]
      rw [List.getElem?_append_left (by omega), flat_take_get fs i j (by omega) hji] at hu
      exact hcs j u hu
    · rw [List.getElem?_append_right (by omega), htl, ← hnews] at hu
      have hin := World.cell?_setCells_in g news (0 + i * 3) w.drew (fun k hk => (s3.out k hk).1) (j - i * 3) (by omega)
      rw [show 0 + i * 3 + (j - i * 3) = j by omega] at hin
      rw [hin, ← hu, List.getElem?_eq_getElem]
  have hic : i ≤ cap := by omega
  have hjc : i + 1 ≤ cap := by omega
  have hp0 : (0 : Int) ≤ (i : Int) + 1 := by omega
  have hp1 : (i : Int) + 1 ≤ (n : Int) := by omega
  have hp2 : ((i : Int) + 1).toNat = i + 1 := by omega
  have hp3 : ¬ ((i : Int) = (i : Int) + 1) := by omega
  have hcm2 : (cap : Int) ≤ 9223372036854775807 := by unfold maxLen at hcm; omega
  have e1 : i + (n - (i + 1)) = n - 1 := by omega
  have e2 : n - (n - 1) = 1 := by omega
  have hW : Hid (W1 = w.drew.setCells g (0 + i * 3) news) := hW1
  rw [hn]
  clear hW1 hown hblk hblk1 hb1 hb2 hcs hthere hnews hfl hlenN hs1 hs2 hsz
  go_enter Tryz.func102, Tryz.ntmps102
  go_wp2_with fail
  go_region_law (refine step_append_room rfl (.tmp 22) (.tmp 25) 26 rfl 59 i0 3 Tryz.underlying26 hi0 hz1 g 0 i cap (by simp [Act.eval, Act.put]) A (n - (i + 1)) (cap - (i + 1)) news (by simp [Act.eval, Act.put]) s1.out hsrc.out s2.out (by omega) s3.out ?_; rw [← hW.out])
  go_wp2
  go_ret
  exact ⟨rfl, HO.out, HK.out⟩
end Go.Proofs.YtflfopienjjlbaaGreatDoor

namespace Go.Proofs.YtflfopienjjlbaaGreatDoor
open Go.RowKit

set_option maxHeartbeats 4000000 in
set_option maxRecDepth 100000 in
theorem insert_grow (B g cap i vb : Nat) (fs : List FileD) (f : FileD) (w : World) (hown : w.ownsRow B 59 3 (.slice (some ⟨g, 0, none⟩) fs.length cap) fs.length (flat fs)) (hv : OneAt w vb f) (hi : i < fs.length) (hroom : cap < fs.length + 1) (hlen : fs.length ≤ 1048576) (hBs : B ≤ w.heap.size) :
    Calls Tryz.prog 97 #[.slice (some ⟨g, 0, none⟩) fs.length cap, .int .i64 i, .slice (some ⟨vb, 0, none⟩) 1 1] w fun e w' =>
      ∃ cap', e = .returned (.slice (some ⟨w.heap.size, 0, none⟩) (fs.length + 1) cap') ∧ w'.ownsRow B 59 3 (.slice (some ⟨w.heap.size, 0, none⟩) (fs.length + 1) cap') (fs.length + 1) (flat (insL fs i f)) ∧ Below w.heap.size w w' := by
  obtain ⟨cur, hB, _, hblk, hnc, hcm, hsz, hcs⟩ := cells_of_row hown
  obtain ⟨i0, hi0, hz0, hz1, hz2⟩ := info_filex
  obtain ⟨n, hn⟩ : ∃ n, fs.length = n := ⟨_, rfl⟩
  rw [hn] at hi hroom hlen hnc ⊢
  have hsize : (Tryz.prog.info? 59).map (·.size) = some 3 := by rw [hi0]; simp [hz1]
  have hgw : g < w.heap.size := lt_of_block hblk
  have hvw : vb < w.heap.size := lt_of_block hv
  have hkk : (n : Int) + 1 - (i : Int) = ((n + 1 - i : Nat) : Int) := by omega
  have hik : i + (n + 1 - i) = n + 1 := by omega
  have htl : (flat (fs.take i)).length = i * 3 := by rw [flat_length, List.length_take]; omega
  have hold : (Builtin.firstCells i0.size i (.slice (some ⟨g, 0, none⟩) i cap)).run Tryz.prog w.drew = .ok (flat (fs.take i)).toArray w.drew := by
    rw [hz1]
    exact run_firstCells_some w.drew 3 i ⟨g, 0, none⟩ i cap (flat (fs.take i)) htl (fun j v hj => by
      rw [Addr.add_lit, Nat.zero_add]
      have hlt := (List.getElem?_eq_some_iff.1 hj).1
      rw [flat_take_get fs i j (by omega) (by omega)] at hj
      exact hcs j v hj)
  obtain ⟨G, hG⟩ : ∃ G, G = grownCap w (n + 1) cap 59 := ⟨_, rfl⟩
  obtain ⟨ROW, hROW⟩ : ∃ ROW : Array Value, ROW = (flat (fs.take i)).toArray ++ Builtin.zeroCells (Value.agg #[.string ByteArray.empty, .string ByteArray.empty, .int .i64 0]).cells (n + 1 - i) ++ Builtin.zeroCells (Value.agg #[.string ByteArray.empty, .string ByteArray.empty, .int .i64 0]).cells (G - (n + 1)) := ⟨_, rfl⟩
  obtain ⟨W1, hW1⟩ : ∃ W1, W1 = w.drew.alloc (.cells ROW 59) := ⟨_, rfl⟩
  have hrz : ∀ ty, (Builtin.append_ #[26, 3] ty #[.slice (some ⟨g, 0, none⟩) i cap, .int .i64 ((n : Int) + 1 - (i : Int))]).run Tryz.prog w = .ok (.slice (some ⟨w.heap.size, 0, none⟩) (n + 1) G) W1 := fun ty => by
    have h := Lib.run_append_grow_zeros w 26 3 ty 59 i0 _ .i64 .i64 Tryz.underlying26 Tryz.underlying3 hi0 hz0 (some ⟨g, 0, none⟩) i cap _ hold (n + 1 - i) (by omega) (by omega) (by omega) (by omega) (by rw [hz2]; omega) (by rw [hz2, hik]; exact growslice_fits hroom (by omega))
    rw [hik, ← hG, ← hROW, ← hW1] at h
    rw [hkk]
    exact h
  have hGn : n + 1 ≤ G := by rw [hG]; exact grownCap_ge w _ _ _
  have hGm : G ≤ maxLen := by rw [hG]; exact grownCap_le_maxLen w (n + 1) cap 59 (by unfold maxLen; omega)
  have hz3c : (Value.agg #[.string ByteArray.empty, .string ByteArray.empty, .int .i64 0]).cells.size = 3 := rfl
  have hRs : ROW.size = G * 3 := by
    rw [hROW]
    simp only [Array.size_append, List.size_toArray, size_zeroCells, hz3c, htl]
    omega
  have hb1 : Blk W1 w.heap.size ROW 59 := by rw [hW1]; exact heap_alloc_new w.drew _
  have hbel1 : Below w.heap.size w W1 := by rw [hW1]; exact bto (Below.refl _ _).drew (bnew _ _)
  have hv1 : OneAt W1 vb f := Blk.later hv hbel1
  have hg1 : Blk W1 g cur 59 := hblk.later hbel1
  have hcpA : ∀ ty dc, (Builtin.copy_ #[26, 26] ty #[.slice (some ⟨w.heap.size, i * 3, none⟩) (n + 1 - i) dc, .slice (some ⟨vb, 0, none⟩) 1 1]).run Tryz.prog W1 = .ok (goInt 1) (W1.setCells w.heap.size (i * 3) (flat [f])) := fun ty dc =>
    run_copy_wide W1 _ _ ty 59 w.heap.size (i * 3) (n + 1 - i) dc ⟨vb, 0, none⟩ 1 1 1 3 (flat [f]) Tryz.underlying26 hsize (by simp only [Nat.min_def]; split <;> omega) rfl
      (fun j v hj => by rw [Addr.add_lit, Nat.zero_add]; exact hv1.cells j v hj)
      (fun j hj => by obtain ⟨v, hv⟩ := hb1.there (j := i * 3 + j) (by rw [hRs]; simp [flat] at hj; omega); rw [hv]; rfl) (fun j hj => hb1.free _) (flat_one_cell _)
  obtain ⟨W2, hW2⟩ : ∃ W2, W2 = W1.setCells w.heap.size (i * 3) (flat [f]) := ⟨_, rfl⟩
  rw [← hW2] at hcpA
  obtain ⟨cur2, hb2, hs2⟩ := Blk.setCells (flat [f]) (i * 3) hb1
  rw [← hW2] at hb2
  have hk2 : Keeps (fun k => k = w.heap.size) W1 W2 := by rw [hW2]; exact Keeps.setCells (S := fun k => k = w.heap.size) rfl _ _ (Keeps.refl _ _)
  have hg2 : Blk W2 g cur 59 := hg1.keeps hk2 (by omega)
  obtain ⟨mv, hmv⟩ : ∃ mv, mv = flat (fs.drop i) := ⟨_, rfl⟩
  have hmvl : mv.length = (n - i) * 3 := by rw [hmv, flat_length, List.length_drop, hn]
  have hcs0 : ∀ j u, (flat fs)[j]? = some u → cur[j]? = some u := fun j u hu => by rw [← hblk.cell]; exact hcs j u hu
  have hcpB : ∀ ty dc sc, (Builtin.copy_ #[26, 26] ty #[.slice (some ⟨w.heap.size, (i + 1) * 3, none⟩) (n - i) dc, .slice (some ⟨g, i * 3, none⟩) (n - i) sc]).run Tryz.prog W2.drew = .ok (goInt ((n - i : Nat) : Int)) (W2.drew.setCells w.heap.size ((i + 1) * 3) mv) := fun ty dc sc =>
    run_copy_wide W2.drew _ _ ty 59 w.heap.size ((i + 1) * 3) (n - i) dc ⟨g, i * 3, none⟩ (n - i) sc (n - i) 3 mv Tryz.underlying26 hsize (by simp only [Nat.min_def]; split <;> omega) hmvl
      (fun j v hj => by
        rw [Addr.add_lit]
        show W2.cell? _ = _
        rw [hg2.cell]
        exact hcs0 _ v (by rwa [hmv, flat_drop_get fs i j (by omega)] at hj))
      (fun j hj => by obtain ⟨v, hv⟩ := hb2.there (j := (i + 1) * 3 + j) (by rw [hs2, hRs]; omega); show (W2.cell? _).isSome = true; rw [hv]; rfl) (fun j hj => hb2.free _) (by rw [hmv]; exact flat_one_cell _)
  obtain ⟨W3, hW3⟩ : ∃ W3, W3 = W2.drew.setCells w.heap.size ((i + 1) * 3) mv := ⟨_, rfl⟩
  rw [← hW3] at hcpB
  obtain ⟨cur3, hb3, hs3⟩ := Blk.setCells mv ((i + 1) * 3) (show Blk W2.drew w.heap.size cur2 59 from hb2)
  rw [← hW3] at hb3
  have HB : Hid (Below w.heap.size w W3) := by
    have k3 : Keeps (fun k => k = w.heap.size) W1 W3 := by rw [hW3]; exact Keeps.setCells (S := fun k => k = w.heap.size) rfl _ _ hk2.drew
    exact hbel1.trans (k3.below (fun k e => by omega) hbel1.size)
  have HO : Hid (W3.ownsRow B 59 3 (.slice (some ⟨w.heap.size, 0, none⟩) (n + 1) G) (n + 1) (flat (insL fs i f))) := by
    refine row_of_cells hBs hb3 hGn hGm (by rw [hs3, hs2, hRs]) (by rw [flat_length, insL_length _ _ _ (by omega), hn]) (ins_cells hn (by omega) ?_ ?_ ?_)
    · intro j u hj hu
      rw [hW3, World.cell?_setCells_out w.heap.size mv ((i + 1) * 3) _ _ (fun _ _ => Or.inl (by show j < _; omega))]
      show W2.cell? _ = _
      rw [hW2, World.cell?_setCells_out w.heap.size (flat [f]) (i * 3) W1 _ (fun _ _ => Or.inl hj), hb1.cell, hROW]
      rw [← flat_take_get fs i j (by omega) hj] at hu
      rw [Array.append_assoc, Array.getElem?_append_left (by simp [htl]; omega)]
      simpa using hu
    · intro j u hu
      have hj := (List.getElem?_eq_some_iff.1 hu).1
      have hj3 : j < 3 := hj
      rw [hW3, World.cell?_setCells_out w.heap.size mv ((i + 1) * 3) _ _ (fun _ _ => Or.inl (by show i * 3 + j < _; omega))]
      show W2.cell? _ = _
      rw [hW2, World.cell?_setCells_in w.heap.size (flat [f]) (i * 3) W1 (fun k hk => by obtain ⟨v, hv⟩ := hb1.there (j := i * 3 + k) (by rw [hRs]; simp [flat] at hk; omega); rw [hv]; rfl) j hj, ← hu, List.getElem?_eq_getElem]
    · intro j u hu
      rw [← hmv] at hu
      have hj := (List.getElem?_eq_some_iff.1 hu).1
      rw [hW3, World.cell?_setCells_in w.heap.size mv ((i + 1) * 3) W2.drew (fun k hk => by obtain ⟨v, hv⟩ := hb2.there (j := (i + 1) * 3 + k) (by rw [hs2, hRs]; omega); show (W2.cell? _).isSome = true; rw [hv]; rfl) j hj, ← hu, List.getElem?_eq_getElem]
  have hq2 : ¬ ((i : Int) = (n : Int)) := by omega
  have hq3 : (cap : Int) < (n : Int) + 1 := by omega
  have hw1 : IntKind.i64.wrap ((i : Int) + 1) = (i : Int) + 1 := by rw [IntKind.wrap_i64]; omega
  have hbd : (0 : Int) ≤ (i : Int) + 1 := by omega
  have hin : i ≤ n := by omega
  have htn : ((i : Int) + 1).toNat = i + 1 := by omega
  have hb5 : (i : Int) ≤ (n : Int) + 1 := by omega
  have hb6 : (i : Int) + 1 ≤ (n : Int) + 1 := by omega
  have hGi : ¬ (G = i) := by omega
  have hGim : ¬ (G = i + 1) := by omega
  have hci : ¬ (cap = i) := by omega
  have hic : (i : Int) ≤ (cap : Int) := by omega
  have hcm2 : (cap : Int) ≤ 9223372036854775807 := by unfold maxLen at hcm; omega
  clear hown hblk hcs hcs0 hv hv1 hsz hs2 hs3 hmv hmvl hW1 hW2 hW3 hz0 hsize hcm hb1 hb2 hb3 hg1 hg2 hk2 hbel1 hRs hROW hG hGm hold hkk hik htl hgw hvw
  go_enter Tryz.func97, Tryz.ntmps97
  go_wp2_with (first
    | (at_builtin; refine Lib.wpList_append_run _ rfl _ _ _ _ rfl _ _ rfl rfl _ _ (hrz _) ?_)
    | (at_builtin; refine wpList_copy_runI _ rfl _ _ 26 26 rfl _ _ rfl rfl (hcpA _ _) ?_))
  go_region_law (refine step_copy_runI rfl _ _ 26 26 rfl _ _ (by simp [Act.eval, Act.put]) (by simp [Act.eval, Act.put]) (hcpB _ _ _) ?_)
  go_wp2
  go_ret
  exact ⟨G, rfl, HO.out, HB.out⟩

set_option maxHeartbeats 4000000 in
set_option maxRecDepth 100000 in
theorem insert_end (B vb : Nat) (v : Value) (fs : List FileD) (f : FileD) (w : World) (hown : w.ownsRow B 59 3 v fs.length (flat fs)) (hv : OneAt w vb f) (hlen : fs.length ≤ 1048576) (hBs : B ≤ w.heap.size) :
    Calls Tryz.prog 97 #[v, .int .i64 fs.length, .slice (some ⟨vb, 0, none⟩) 1 1] w fun e w' =>
      ∃ v', e = .returned v' ∧ w'.ownsRow B 59 3 v' (fs.length + 1) (flat (insL fs fs.length f)) ∧ Keeps (fun k => v.ownBlock = some k) w w' ∧ (v'.ownBlock = v.ownBlock ∨ v'.ownBlock = some w.heap.size) := by
  obtain ⟨i0, hi0, hz0, hz1, hz2⟩ := info_filex
  have hnews : Hid (∀ j u, (flat [f])[j]? = some u → w.cell? ((⟨vb, 0, none⟩ : Addr).add j) = some u) := fun j u hu => by
    rw [Addr.add_lit, Nat.zero_add]; exact hv.cells j u hu
  have hfl : Hid (flat (insL fs fs.length f) = flat fs ++ flat [f]) := by
    show _ = _
    rw [insL_flat]; simp [flat]
  have HO : Hid (w.ownsRow B 59 3 v fs.length (flat fs)) := hown
  have HI : Hid (Tryz.prog.info? 59 = some i0) := hi0
  clear hv hi0
  rcases hown.2 with ⟨rfl, h0⟩ | ⟨g, cap, cur, rfl, hB, hg, hnc, hcm, _⟩
  · obtain rfl : fs = [] := List.length_eq_zero_iff.1 h0
    clear hown
    go_enter Tryz.func97, Tryz.ntmps97
    go_wp2_with (at_builtin; refine wpList_append_own_at _ rfl _ _ _ rfl B 59 i0 _ 3 40 Tryz.underlying26 HI.out hz0 hz1 hz2 rfl (by omega) (.slice none 0 0) 0 [] rfl HO.out ⟨vb, 0, none⟩ 1 1 (flat [f]) rfl rfl hnews.out (flat_one_cell _) (by simp [maxLen]) (by omega) hBs ?_; intro v1 w1 hown1 hgrow _ hat)
    go_ret
    exact ⟨v1, rfl, hown1, Keeps.grown hgrow fun g h => h, hat⟩
  · have hcm2 : (cap : Int) ≤ 9223372036854775807 := by unfold maxLen at hcm; omega
    clear hown hg
    generalize hn : fs.length = n at *
    go_enter Tryz.func97, Tryz.ntmps97
    go_wp2_with (at_builtin; refine wpList_append_own_at _ rfl _ _ _ rfl B 59 i0 _ 3 40 Tryz.underlying26 HI.out hz0 hz1 hz2 rfl (by omega) (.slice (some ⟨g, 0, none⟩) n cap) n (flat fs) rfl HO.out ⟨vb, 0, none⟩ 1 1 (flat [f]) rfl rfl hnews.out (flat_one_cell _) (by simp [maxLen]; omega) (by omega) hBs ?_; intro v1 w1 hown1 hgrow _ hat)
    all_goals (go_ret; rw [hfl.out]; exact ⟨v1, rfl, hown1, Keeps.grown hgrow fun g h => h, hat⟩)

/-- slices.Insert of one file. -/
theorem insert_any (B vb i : Nat) (v : Value) (fs : List FileD) (f : FileD) (w : World) (hown : w.ownsRow B 59 3 v fs.length (flat fs)) (hv : OneAt w vb f) (hvb : v.ownBlock ≠ some vb) (hi : i ≤ fs.length) (hlen : fs.length ≤ 1048576) (hBs : B ≤ w.heap.size) :
    Calls Tryz.prog 97 #[v, .int .i64 i, .slice (some ⟨vb, 0, none⟩) 1 1] w fun e w' =>
      ∃ v', e = .returned v' ∧ w'.ownsRow B 59 3 v' (fs.length + 1) (flat (insL fs i f)) ∧ Keeps (fun k => v.ownBlock = some k) w w' ∧ (v'.ownBlock = v.ownBlock ∨ v'.ownBlock = some w.heap.size) := by
  by_cases he : i = fs.length
  · subst he; exact insert_end B vb v fs f w hown hv hlen hBs
  · rcases hown.2 with ⟨rfl, h0⟩ | ⟨g, cap, cur, rfl, hB, hg, hnc, hcm, _⟩
    · omega
    · by_cases hr : fs.length + 1 ≤ cap
      · refine (insert_shift B g cap i vb fs f w hown hv (fun e => hvb (by rw [e]; rfl)) (by omega) hr hlen).mono ?_
        rintro e w' ⟨rfl, h1, h2⟩
        exact ⟨_, rfl, h1, h2.mono (fun k e => by subst e; rfl), Or.inl rfl⟩
      · refine (insert_grow B g cap i vb fs f w hown hv (by omega) (by omega) hlen hBs).mono ?_
        rintro e w' ⟨cap', rfl, h1, h2⟩
        exact ⟨_, rfl, h1, Keeps.of h2, Or.inr rfl⟩
end Go.Proofs.YtflfopienjjlbaaGreatDoor

