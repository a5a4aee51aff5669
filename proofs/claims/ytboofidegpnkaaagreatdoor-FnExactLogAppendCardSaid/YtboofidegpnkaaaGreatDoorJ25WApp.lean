import Derived.Test.YtboofidegpnkaaaGreatDoorJ24ITab
import Derived.Test.YtboofidegpnkaaaGreatDoorJ01Btw
import Derived.Test.YtboofidegpnkaaaGreatDoorJ22SFrame
import Derived.Test.YtboofidegpnkaaaGreatDoorJ21SegL
import Derived.Test.YtboofidegpnkaaaGreatDoorJ04Clone
import Derived.Laws.MakeOwn
import Derived.Deep.RegionHeld3
import Derived.Test.YtboofidegpnkaaaGreatDoorJ16SStep
import Derived.Deep.DeepCutAuto
namespace Go.Proofs.YtboofidegpnkaaaGreatDoor
open Go.RowKit
theorem xor_u8 (a b : Nat) (ha : a < 256) (hb : b < 256) : bits .xor .u8 (a : Int) (b : Int) = ((a ^^^ b : Nat) : Int) := by
  have hx : a ^^^ b < 2 ^ 8 := Nat.xor_lt_two_pow (by omega) (by omega)
  show IntKind.u8.wrap ((BitVec.ofInt 8 (a : Int) ^^^ BitVec.ofInt 8 (b : Int)).toNat : Int) = _
  rw [BitVec.toNat_xor, BitVec.ofInt_natCast, BitVec.ofInt_natCast, BitVec.toNat_ofNat, BitVec.toNat_ofNat, Nat.mod_eq_of_lt (by omega), Nat.mod_eq_of_lt (by omega)]
  simp only [IntKind.wrap, IntKind.bits, IntKind.signed]
  simp
  omega
theorem not_u32 (a : Nat) (ha : a < 4294967296) : bits .xor .u32 IntKind.u32.max (a : Int) = ((4294967295 - a : Nat) : Int) := by
  have h1 : bits .xor .u32 IntKind.u32.max (a : Int) = ((4294967295 ^^^ a : Nat) : Int) := xor_u32 4294967295 a (by omega) ha
  have h2 : (4294967295 ^^^ a : Nat) = 4294967295 - a := by
    have e : (BitVec.allOnes 32 ^^^ BitVec.ofNat 32 a).toNat = (~~~ BitVec.ofNat 32 a).toNat := by rw [BitVec.allOnes_xor]
    rw [BitVec.toNat_xor, BitVec.toNat_allOnes, BitVec.toNat_not, BitVec.toNat_ofNat, Nat.mod_eq_of_lt (by omega)] at e
    exact e
  rw [h1, h2]
set_option maxRecDepth 100000 in
set_option maxHeartbeats 1000000 in
theorem tabSum_any (b : Nat) (cur : Array Value) (s : ByteArray) (w : World) (hs : s.size ≤ maxLen) (hB : Blk w b cur 127) (hcur : ∀ i, i < 256 → cur[i]? = some (.int .u32 (crcT i : Nat))) :
    Calls Tryz.prog 69 #[.pointer (some ⟨b, 0, none⟩), .string s] w fun e w' => e = .returned (.int .i64 (crcV s : Nat)) ∧ Below w.heap.size w w' := by
  have HB : Hid (Blk w b cur 127 ∧ ∀ i, i < 256 → cur[i]? = some (.int .u32 (crcT i : Nat))) := ⟨hB, hcur⟩
  clear hB hcur
  unfold maxLen at hs
  go_enter Tryz.func69, Tryz.ntmps69
  go_wp2
  go_loopw [5, 6, 9] (fun x _ c wr => ∃ (k X : Nat), k ≤ s.size ∧ c = .int .i64 k ∧ x = .int .u32 X ∧ X < 4294967296 ∧ Hid (X = crcL (s.data.toList.take k)) ∧ Hid (Below w.heap.size w wr)) (fun _ _ c _ => s.size - (intOf c).toNat)
  case atStart => exact ⟨0, 4294967295, by omega, rfl, rfl, by omega, by show _ = _; simp [crcL], Below.refl _ _⟩
  case round =>
    obtain ⟨k, X, hk, rfl, rfl, hX, hx, hbel⟩ := hrel
    by_cases hlt : k < s.size
    · have hc := (s[k]).toNat_lt
      obtain ⟨N, T, Y, hN, hT, hY, hxr, hxt, hcell, hcr⟩ : ∃ N T Y : Nat, N < 256 ∧ T < 4294967296 ∧ Y < 4294967296 ∧ bits .xor .u8 ((X : Int) % 256) ((s[k]).toNat : Int) = (N : Int) ∧ bits .xor .u32 ((X : Int) / 256) (T : Int) = (Y : Int) ∧ wr.cell? ⟨b, N, none⟩ = some (.int .u32 (T : Nat)) ∧ Hid (crcByte X s[k] = Y) := by
        have hxr := xor_u8 (X % 256) (s[k]).toNat (by omega) (by omega)
        have hi : (X % 256) ^^^ (s[k]).toNat < 256 := Nat.xor_lt_two_pow (n := 8) (by omega) (by omega)
        have hb' := HB.out.1.later hbel.out
        have hT := crcT_lt hi
        refine ⟨_, _, _, hi, hT, Nat.xor_lt_two_pow (n := 32) (by omega) hT, hxr, xor_u32 (X / 256) _ (by omega) hT, by rw [hb'.cell]; exact HB.out.2 _ hi, crc_table X _ (by omega)⟩
      go_wp2
      go_region
      go_wp2
      refine ⟨⟨k + 1, Y, by omega, by go_num, rfl, hY, ?_, hbel.out.drew⟩, by simp [intOf]; omega⟩
      show _ = _
      rw [take_snoc s k hlt, crcL_snoc, ← hx.out, hcr.out]
    · have e : k = s.size := by omega
      subst e
      have hn := not_u32 X hX
      go_wp2
      refine bodyPost_ret (v := .int .i64 (crcV s : Nat)) ?_ rfl ⟨rfl, hbel.out⟩
      have e2 : wrap64 ((4294967295 - X : Nat) : Int) = ((4294967295 - X : Nat) : Int) := by simp only [wrap64]; omega
      rw [e2, show crcV s = 4294967295 - X by rw [crcV, hx.out, List.take_of_length_le (by simp)]]
      simp [results, Tryz.results69, go_sem]
end Go.Proofs.YtboofidegpnkaaaGreatDoor
namespace Go.Proofs.YtboofidegpnkaaaGreatDoor
open Go.RowKit
set_option maxRecDepth 100000 in
set_option maxHeartbeats 1000000 in
theorem implCrc_any (s : ByteArray) (w : World) (hs : s.size ≤ maxLen) :
    Calls Tryz.prog 49 #[.string s] w fun e w' => e = .returned (.int .i64 (crcV s : Nat)) ∧ Below w.heap.size w w' := by
  have HS : Hid (s.size ≤ maxLen) := hs
  clear hs
  go_enter Tryz.func49, Tryz.ntmps49
  go_wp2_with fail
  refine (makeTab_any _).mono ?_
  rintro e w1 ⟨b, cur, rfl, _, hB, hcur, hb1⟩
  have HB : Hid (Blk w1 b cur 127 ∧ (∀ i, i < 256 → cur[i]? = some (.int .u32 (crcT i : Nat))) ∧ Below w.heap.size w w1) := ⟨hB, hcur, hb1⟩
  clear hB hcur hb1
  go_wp2_with fail
  refine (tabSum_any b cur s _ HS.out HB.out.1 HB.out.2.1).mono ?_
  rintro e w2 ⟨rfl, hb2⟩
  have HB2 : Hid (Below w.heap.size w w2) := bto HB.out.2.2 hb2
  clear hb2
  go_wp2
  go_ret
  exact ⟨rfl, HB2.out⟩
end Go.Proofs.YtboofidegpnkaaaGreatDoor
namespace Go.Proofs.YtboofidegpnkaaaGreatDoor
open Go.RowKit
theorem shrN_pow (v : Int) : ∀ k, shrN v k = v / 2 ^ (8 * k)
  | 0 => by simp [shrN]
  | k + 1 => by
    rw [shrN, shrN_pow v k, show 8 * (k + 1) = 8 * k + 8 by omega, Int.pow_add, Int.ediv_ediv_of_nonneg (Int.pow_nonneg (by omega))]
    rfl
theorem numI_get (v : Int) : ∀ n i, i < n → (numI v n)[i]? = some (shrN v (n - 1 - i) % 256)
  | 0, i, h => absurd h (by omega)
  | n + 1, 0, _ => by simp [numI]
  | n + 1, i + 1, h => by
    rw [numI, List.getElem?_cons_succ, numI_get v n i (by omega)]
    congr 3
    omega
set_option maxRecDepth 100000 in
set_option maxHeartbeats 1000000 in
theorem implHigh_any (n : Nat) (v : Int) (w : World) (hn : n ≤ 8) :
    Calls Tryz.prog 48 #[.int .i64 v, .int .i64 n] w fun e w' => e = .returned (.string (numS n v)) ∧ Below w.heap.size w w' := by
  obtain ⟨C, hC, hmk⟩ : ∃ C : Array Value, C.size = n ∧ (Instr.makeSlice 70 (.int .i64 n) (.int .i64 n)).run Tryz.prog w = .ok (.slice (some ⟨w.heap.size, 0, none⟩) n n) (w.alloc (.cells C 5)) := by
    obtain ⟨ti, hti, hz0, hz1, hz2⟩ := info_u8
    have h := run_make (P := Tryz.prog) w 70 5 ti _ Tryz.underlying70 hti hz0 .i64 .i64 (n : Int) (n : Int) (by omega) (by omega) (by rw [hz2]; omega) (by omega)
    rw [hz1, Int.toNat_natCast, Nat.mul_one] at h
    exact ⟨_, size_madeCells _ _, h⟩
  have HB : Hid (Blk (w.alloc (.cells C 5)) w.heap.size C 5) := heap_alloc_new _ _
  go_enter Tryz.func48, Tryz.ntmps48
  go_wp2
  go_loopw [6, 11] (fun _ c wr => ∃ (k : Nat) (cur : Array Value), k ≤ n ∧ c = .int .i64 k ∧ Hid (Blk wr w.heap.size cur 5) ∧ cur.size = n ∧ Hid (∀ i, i < k → cur[n - 1 - i]? = some (.int .u8 (shrN v i % 256))) ∧ Hid (Below w.heap.size w wr)) (fun _ c _ => n - (intOf c).toNat)
  case atStart => exact ⟨0, C, by omega, rfl, HB, hC, fun i hi => absurd hi (by omega), bnew _ _⟩
  case round =>
    obtain ⟨k, cur, hk, rfl, hblk, hcs, hcur, hbel⟩ := hrel
    by_cases hlt : k < n
    · obtain ⟨p, hp, hpn⟩ : ∃ p : Nat, (n : Int) - 1 - (k : Int) = (p : Int) ∧ Hid (p = n - 1 - k) := ⟨n - 1 - k, by omega, rfl⟩
      have hc : wr.cell? ⟨w.heap.size, p, none⟩ = some (cur[p]'(by have := hpn.out; omega)) := by rw [hblk.out.cell]; exact Array.getElem?_eq_getElem _
      have hf := hblk.out.free p
      go_wp2
      refine ⟨⟨k + 1, cur.setIfInBounds p (.int .u8 (v / 2 ^ (8 * k) % 256)), by omega, by go_num, hblk.out.set p _, by simp [hcs], ?_, hbel.out.setCell (p := ⟨w.heap.size, p, none⟩) (Nat.le_refl _) _⟩, by simp [intOf]; omega⟩
      intro i hi
      have hp2 := hpn.out
      rw [Array.getElem?_setIfInBounds]
      split
      · rename_i e
        have e2 : i = k := by omega
        subst e2
        rw [if_pos (by omega), shrN_pow]
      · rename_i e
        exact hcur.out i (by omega)
    · have e : k = n := by omega
      subst e
      have hcv : (convert 70 9 (.slice (some ⟨w.heap.size, 0, none⟩) k k)).run Tryz.prog wr = .ok (.string (numS k v)) wr := by
        refine run_convert_bytes_arg wr 70 5 Tryz.underlying70 Tryz.underlying5 w.heap.size 0 _ _ (numI v k) (numI_length v k) (fun i hi => ?_) 9 Tryz.underlying9
        rw [hblk.out.cell, Nat.zero_add]
        have h2 := hcur.out (k - 1 - i) (by omega)
        rw [show k - 1 - (k - 1 - i) = i by omega] at h2
        rw [h2]
        have h3 := numI_get v k i (by omega)
        simp [List.getD, h3]
      go_wp2
      go_ret
      exact ⟨rfl, hbel.out⟩
end Go.Proofs.YtboofidegpnkaaaGreatDoor
namespace Go.Proofs.YtboofidegpnkaaaGreatDoor
open Go.RowKit
set_option maxRecDepth 100000 in
set_option maxHeartbeats 1000000 in
theorem implFrame_any (p : ByteArray) (w : World) (hs : p.size ≤ maxLen) :
    Calls Tryz.prog 26 #[.string p] w fun e w' => e = .returned (.string (frameS p)) ∧ Below w.heap.size w w' := by
  have HS : Hid (p.size ≤ maxLen) := hs
  unfold maxLen at hs
  have HF : Hid (∀ W, Calls Tryz.prog 39 #[.int .i64 (p.size : Int)] W fun e w' => e = .returned (.bool (btwB p.size 1 60000)) ∧ w' = W) := fun W => fits_any _ W
  by_cases h : 1 ≤ p.size ∧ p.size ≤ 60000
  · have hb : btwB p.size 1 60000 = true := by simp [btwB]; omega
    rw [hb] at HF
    have E : Hid (frameS p = numS 4 p.size ++ numS 4 (crcV p : Nat) ++ p) := if_pos h
    have h4 := numS_size 4 (p.size : Int)
    have h4' := numS_size 4 ((crcV p : Nat) : Int)
    have H1 : Hid (∀ W, Calls Tryz.prog 48 #[.int .i64 (p.size : Int), .int .i64 4] W fun e w' => e = .returned (.string (numS 4 p.size)) ∧ Below W.heap.size W w') := fun W => implHigh_any 4 _ W (by omega)
    have H2 : Hid (∀ W, Calls Tryz.prog 48 #[.int .i64 (crcV p : Nat), .int .i64 4] W fun e w' => e = .returned (.string (numS 4 (crcV p : Nat))) ∧ Below W.heap.size W w') := fun W => implHigh_any 4 _ W (by omega)
    generalize numS 4 (p.size : Int) = A at *
    generalize numS 4 ((crcV p : Nat) : Int) = B at *
    go_enter Tryz.func26, Tryz.ntmps26
    go_wp2_with (go_at_call 39; refine (HF.out _).mono ?_; rintro e w' ⟨rfl, hw⟩; replace hw := hw.symm; subst hw)
    refine (H1.out _).mono ?_
    rintro e w1 ⟨rfl, hb1⟩
    go_wp2_with fail
    refine (implCrc_any p _ HS.out).mono ?_
    rintro e w2 ⟨rfl, hb2⟩
    go_wp2_with fail
    refine (H2.out _).mono ?_
    rintro e w3 ⟨rfl, hb3⟩
    have HB : Hid (Below w.heap.size w w3) := bto (bto hb1 hb2) hb3
    clear hb1 hb2 hb3
    go_wp2
    go_ret
    exact ⟨ret_str E.out.symm, HB.out⟩
  · have hb : btwB p.size 1 60000 = false := by simp [btwB]; omega
    rw [hb] at HF
    have E : Hid (frameS p = ByteArray.empty) := if_neg h
    go_enter Tryz.func26, Tryz.ntmps26
    go_wp2_with (go_at_call 39; refine (HF.out _).mono ?_; rintro e w' ⟨rfl, hw⟩; replace hw := hw.symm; subst hw)
    go_ret
    exact ⟨ret_str E.out.symm, Below.refl _ _⟩
end Go.Proofs.YtboofidegpnkaaaGreatDoor
namespace Go.Proofs.YtboofidegpnkaaaGreatDoor
open Go.RowKit
theorem okByte_dig (k : Nat) (h : k < 10) : okByte (48 + UInt8.ofNat k) = true := by
  rcases (show k = 0 ∨ k = 1 ∨ k = 2 ∨ k = 3 ∨ k = 4 ∨ k = 5 ∨ k = 6 ∨ k = 7 ∨ k = 8 ∨ k = 9 by omega) with rfl | rfl | rfl | rfl | rfl | rfl | rfl | rfl | rfl | rfl <;> decide
theorem okBytes_seg (n : Nat) : ∀ i, okBytes (segD n i) = true
  | 0 => rfl
  | i + 1 => by
    have h1 := okBytes_seg n i
    simp only [okBytes, segD, List.all_cons, Bool.and_eq_true] at h1 ⊢
    exact ⟨okByte_dig _ (by omega), h1⟩
theorem segS_is (n : Int) (h1 : 1 ≤ n) (h2 : n ≤ 999999) : segS n = segN n.toNat := if_pos ⟨h1, h2⟩
theorem nameB_seg (n : Int) (h1 : 1 ≤ n) (h2 : n ≤ 999999) : nameB (segS n) = true := by
  rw [segS_is n h1 h2]
  have hz : (segN n.toNat).size = 10 := by
    show (119 :: 97 :: 108 :: 45 :: segD n.toNat 6).toArray.size = 10
    simp [segD_length]
  have hd : (segN n.toNat).data.toList = 119 :: 97 :: 108 :: 45 :: segD n.toNat 6 := rfl
  have hb := okBytes_seg n.toNat 6
  unfold nameB
  rw [hz, hd]
  simp only [okBytes, List.all_cons] at hb ⊢
  rw [hb]
  decide
theorem opB_mk {k : Int} {n : Int} {d : ByteArray} {z : Int} (hk : 1 ≤ k ∧ k ≤ 4) (h1 : 1 ≤ n) (h2 : n ≤ 999999) : opB ⟨k, segS n, ⟨#[]⟩, d, z⟩ = true := by
  have hn := nameB_seg n h1 h2
  have hb : btwB k 1 6 = true := by simp [btwB]; omega
  have h5 : decide (k ≠ 5) = true := by simp; omega
  simp only [opB, hb, hn, h5, Bool.true_and, Bool.true_or]
structure WSt (w0 w : World) (B P D : Nat) (K : DiskD) (L : LogD) : Prop where
  pow : PowTab w0
  below : Below w0.heap.size w0 w
  hB : w0.heap.size ≤ B
  hP : w0.heap.size ≤ P
  wr : WrAt w P D L
  drive : ∃ v, DriveAt w B D K.fs K.c K.k K.cr K.fl K.dn v
  valid : diskB K.fs K.c K.k K.cr K.fl = true
theorem WSt.later {w0 w w' : World} {B P D : Nat} {K : DiskD} {L : LogD} (h : WSt w0 w B P D K L) (hb : Below w.heap.size w w') : WSt w0 w' B P D K L :=
  ⟨h.pow, bto h.below hb, h.hB, h.hP, h.wr.later hb, by obtain ⟨v, hv⟩ := h.drive; exact ⟨v, hv.later hb⟩, h.valid⟩
theorem WSt.tab {w0 w : World} {B P D : Nat} {K : DiskD} {L : LogD} (h : WSt w0 w B P D K L) : PowTab w := h.pow.later h.below
theorem WSt.set {w0 w : World} {B P D : Nat} {K : DiskD} {L L' : LogD} (h : WSt w0 w B P D K L) (j : Nat) (x : Value) (hj : #[Value.pointer (some ⟨D, 0, none⟩), .int .i64 L'.first, .int .i64 L'.last, .int .i64 L'.size] = (#[Value.pointer (some ⟨D, 0, none⟩), .int .i64 L.first, .int .i64 L.last, .int .i64 L.size] : Array Value).setIfInBounds j x) : WSt w0 (w.setCell ⟨P, j, none⟩ x) B P D K L' := by
  refine ⟨h.pow, h.below.setCell (by show w0.heap.size ≤ P; exact h.hP) _, h.hB, h.hP, ?_, ?_, h.valid⟩
  · show Blk _ _ _ _
    rw [hj]
    exact Blk.set h.wr j x
  · obtain ⟨v, hv⟩ := h.drive
    refine ⟨v, hv.from', ?_, ?_, hv.apart⟩
    · refine (Below.heap_setCell _ _ _ D (fun e => ?_)).trans hv.blk
      have e2 : D = P := e
      have e4 := hv.blk
      rw [e2] at e4
      have e3 := (show w.heap[P]? = _ from e4).symm.trans h.wr
      simp at e3
    · refine row_keeps (S := fun k => k = P) hv.row ((Keeps.refl (fun k => k = P) w).setCell (g := P) rfl j x) (fun g hg e => ?_)
      obtain ⟨cur, hc⟩ := own_file hv.row g hg
      rw [e] at hc
      have e3 := (show w.heap[P]? = _ from hc).symm.trans h.wr
      simp at e3
theorem stepD_ok {K : DiskD} {op : OpD} (h : diskB K.fs K.c K.k K.cr K.fl = true) (ho : opB op = true) :
    stepD K op = (⟨(stepR K.fs K.c K.k K.cr K.fl K.dn op).2.1, K.c, (stepR K.fs K.c K.k K.cr K.fl K.dn op).2.2.1, K.cr, K.fl, (stepR K.fs K.c K.k K.cr K.fl K.dn op).2.2.2⟩, (stepR K.fs K.c K.k K.cr K.fl K.dn op).1) := by
  unfold stepD outR
  rw [if_pos (by simp [h, ho])]
theorem stepW {w0 w : World} {B P D : Nat} {K : DiskD} {L : LogD} (op : OpD) (h : WSt w0 w B P D K L) (ho : opB op = true) (hk : op.kind ≤ 4) :
    Calls Tryz.prog 46 #[.pointer (some ⟨D, 0, none⟩), .agg #[.int .i64 op.kind, .string op.name, .string op.to, .string op.data, .int .i64 op.size]] w fun e w' =>
      e = .returned (errV (stepD K op).2) ∧ (stepD K op).2 ≤ 6 ∧ WSt w0 w' B P D (stepD K op).1 L := by
  obtain ⟨v, hv⟩ := h.drive
  obtain ⟨f1, f2, f3, f4, f5, f6, f7, _⟩ := files_of_disk h.valid
  have hop : btwB op.kind 1 6 = true := by simp only [opB, Bool.and_eq_true] at ho; exact ho.1.1
  rw [stepD_ok h.valid ho]
  refine (step_any w B D K.fs K.c K.k K.cr K.fl K.dn v op ⟨hv, asc_of f1, f2, f5, f4, f6, f7⟩ hop).mono ?_
  rintro e w' ⟨rfl, hb, hko, v', hd', hkv⟩
  have hd := Exists.intro v' hd'
  exact ⟨rfl, stepR_code _ _ _ _ _ _ _, h.pow, h.below.trans (hb.mono h.hB), h.hB, h.hP, hko hk P _ _ h.wr (by decide) (by decide), hd, diskB_step h.valid ho hk⟩
def addR (K : DiskD) (L : LogD) (f : ByteArray) (most : Int) : DiskD × LogD × Nat :=
  if fullB L f.size most = true then
    if (stepD K (opCreate (L.last + 1))).2 ≠ 0 then ((stepD K (opCreate (L.last + 1))).1, L, (stepD K (opCreate (L.last + 1))).2)
    else appendT (stepD K (opCreate (L.last + 1))).1 ⟨L.first, L.last + 1, 0⟩ f
  else appendT K L f
theorem ret_err {a b : Nat} (h : a = b) : Ending.returned (errV a) = .returned (errV b) := by rw [h]
theorem errV_iface {x : Nat} (h0 : ¬ x = 0) (h6 : x ≤ 6) : ∃ t, errV x = .iface 79 (.string t) := by
  match x, h0, h6 with
  | 1, _, _ => exact ⟨_, rfl⟩
  | 2, _, _ => exact ⟨_, rfl⟩
  | 3, _, _ => exact ⟨_, rfl⟩
  | 4, _, _ => exact ⟨_, rfl⟩
  | 5, _, _ => exact ⟨_, rfl⟩
  | 6, _, _ => exact ⟨_, rfl⟩
theorem stepOf {w0 w : World} {B P D : Nat} {K K' : DiskD} {L : LogD} {x : Nat} (op : OpD) (h : WSt w0 w B P D K L) (ho : opB op = true) (hk : op.kind ≤ 4) (e : stepD K op = (K', x)) :
    Calls Tryz.prog 46 #[.pointer (some ⟨D, 0, none⟩), .agg #[.int .i64 op.kind, .string op.name, .string op.to, .string op.data, .int .i64 op.size]] w fun e w' =>
      e = .returned (errV x) ∧ x ≤ 6 ∧ WSt w0 w' B P D K' L := by
  have := stepW op h ho hk
  rw [e] at this
  exact this
set_option maxRecDepth 100000 in
set_option maxHeartbeats 4000000 in
theorem add_short {w0 w : World} {B P D : Nat} {K : DiskD} {L : LogD} (f : ByteArray) (most : Int) (h : WSt w0 w B P D K L) (hl : logB L = true) (hf : f.size ≤ 60008) (hn : fullB L f.size most = false) :
    Calls Tryz.prog 25 #[.pointer (some ⟨P, 0, none⟩), .string f, .int .i64 most] w fun e w' =>
      e = .returned (errV (addR K L f most).2.2) ∧ (addR K L f most).2.2 ≤ 6 ∧ WSt w0 w' B P D (addR K L f most).1 (addR K L f most).2.1 := by
  obtain ⟨hs0, hs1, _, _, hl1, hl2⟩ := log_size hl
  have E0 : Hid (addR K L f most = appendT K L f) := by show _ = _; rw [addR, if_neg (by rw [hn]; simp)]
  have HFU : Hid (Calls Tryz.prog 40 #[.pointer (some ⟨P, 0, none⟩), .int .i64 (f.size : Int), .int .i64 most] w fun e w' => e = .returned (.bool false) ∧ w' = w) := by
    have := full_any P D L (f.size : Int) most w h.wr ⟨hs0, hs1⟩ (by omega)
    rw [hn] at this
    exact this
  have HW : Hid (WSt w0 w B P D K L) := h
  clear h hl hn
  obtain ⟨c0, c1, c2, c3⟩ := HW.out.wr.cells
  go_enter Tryz.func25, Tryz.ntmps25
  go_wp2_with fail
  refine HFU.out.mono ?_
  rintro e w' ⟨rfl, hw⟩; replace hw := hw.symm; subst hw
  go_wp2_with fail
  refine (implSeg_any L.last _ HW.out.tab).mono ?_
  rintro e w1 ⟨rfl, hb1⟩
  have HW1 : Hid (WSt w0 w1 B P D K L) := HW.out.later hb1
  clear hb1 c0 c1 c2 c3 HFU HW
  obtain ⟨c0, _, _, _⟩ := HW1.out.wr.cells
  obtain ⟨⟨K1, x1⟩, hS1⟩ : ∃ R, stepD K (opAppend L.last f) = R := ⟨_, rfl⟩
  have HS1 : Hid (stepD K (opAppend L.last f) = (K1, x1)) := hS1
  have HC1 : Hid (Calls Tryz.prog 46 #[.pointer (some ⟨D, 0, none⟩), .agg #[.int .i64 2, .string (segS L.last), .string ⟨#[]⟩, .string f, .int .i64 0]] w1 fun e w' => e = .returned (errV x1) ∧ x1 ≤ 6 ∧ WSt w0 w' B P D K1 L) := stepOf (opAppend L.last f) HW1.out (opB_mk (by omega) (by omega) (by omega)) (by show (2 : Int) ≤ 4; omega) hS1
  clear hS1
  go_wp2_with fail
  refine HC1.out.mono ?_
  rintro e w2 ⟨rfl, h6, hw2⟩
  have HW2 : Hid (WSt w0 w2 B P D K1 L) := hw2
  clear hw2 c0 HC1
  by_cases hx : x1 = 0
  · subst hx
    simp only [errV]
    obtain ⟨c0, _, _, _⟩ := HW2.out.wr.cells
    obtain ⟨⟨K2, x2⟩, hS2⟩ : ∃ R, stepD K1 (opSync L.last) = R := ⟨_, rfl⟩
    have HS2 : Hid (stepD K1 (opSync L.last) = (K2, x2)) := hS2
    have HC2 : Hid (Calls Tryz.prog 46 #[.pointer (some ⟨D, 0, none⟩), .agg #[.int .i64 3, .string (segS L.last), .string ⟨#[]⟩, .string ⟨#[]⟩, .int .i64 0]] w2 fun e w' => e = .returned (errV x2) ∧ x2 ≤ 6 ∧ WSt w0 w' B P D K2 L) := stepOf (opSync L.last) HW2.out (opB_mk (by omega) (by omega) (by omega)) (by show (3 : Int) ≤ 4; omega) hS2
    clear hS2 h6
    go_wp2_with fail
    refine HC2.out.mono ?_
    rintro e w3 ⟨rfl, h6, hw3⟩
    have HW3 : Hid (WSt w0 w3 B P D K2 L) := hw3
    have EA : Hid (appendT K L f = if x2 ≠ 0 then (K2, L, x2) else (K2, ⟨L.first, L.last, L.size + f.size⟩, 0)) := appendT_sync (L := L) HS1.out rfl HS2.out
    clear hw3 c0 HC2
    by_cases hx : x2 = 0
    · subst hx
      simp only [errV]
      have EB : Hid (addR K L f most = (K2, ⟨L.first, L.last, L.size + f.size⟩, 0)) := by show _ = _; rw [E0.out, EA.out, if_neg (by simp)]
      have HWF : Hid (WSt w0 (w3.setCell ⟨P, 3, none⟩ (.int .i64 (L.size + (f.size : Int)))) B P D K2 ⟨L.first, L.last, L.size + f.size⟩) := HW3.out.set 3 _ (by simp)
      obtain ⟨_, _, _, c3⟩ := HW3.out.wr.cells
      have q3 := Blk.free HW3.out.wr 3
      have hwz : IntKind.i64.wrap (L.size + (f.size : Int)) = L.size + (f.size : Int) := by rw [IntKind.wrap_i64]; omega
      go_wp2
      go_ret
      rw [EB.out]
      exact ⟨rfl, by omega, HWF.out⟩
    · obtain ⟨t, ht⟩ := errV_iface hx h6
      have EB : Hid (addR K L f most = (K2, L, x2)) := by show _ = _; rw [E0.out, EA.out, if_pos hx]
      have HT : Hid (errV x2 = .iface 79 (.string t)) := ht
      rw [ht]
      clear ht
      go_wp2
      go_ret
      rw [EB.out]
      exact ⟨by rw [HT.out]; rfl, h6, HW3.out⟩
  · obtain ⟨t, ht⟩ := errV_iface hx h6
    have EB : Hid (addR K L f most = (K1, L, x1)) := by show _ = _; rw [E0.out, appendT_fail (L := L) HS1.out hx]
    have HT : Hid (errV x1 = .iface 79 (.string t)) := ht
    rw [ht]
    clear ht
    go_wp2
    go_ret
    rw [EB.out]
    exact ⟨by rw [HT.out]; rfl, h6, HW2.out⟩
set_option maxRecDepth 100000 in
set_option maxHeartbeats 4000000 in
theorem add_full {w0 w : World} {B P D : Nat} {K : DiskD} {L : LogD} (f : ByteArray) (most : Int) (h : WSt w0 w B P D K L) (hl : logB L = true) (hf : f.size ≤ 60008) (hn : fullB L f.size most = true) (h9 : L.last ≠ 999999) :
    Calls Tryz.prog 25 #[.pointer (some ⟨P, 0, none⟩), .string f, .int .i64 most] w fun e w' =>
      e = .returned (errV (addR K L f most).2.2) ∧ (addR K L f most).2.2 ≤ 6 ∧ WSt w0 w' B P D (addR K L f most).1 (addR K L f most).2.1 := by
  obtain ⟨hs0, hs1, _, _, hl1, hl2⟩ := log_size hl
  have HFU : Hid (Calls Tryz.prog 40 #[.pointer (some ⟨P, 0, none⟩), .int .i64 (f.size : Int), .int .i64 most] w fun e w' => e = .returned (.bool true) ∧ w' = w) := by
    have := full_any P D L (f.size : Int) most w h.wr ⟨hs0, hs1⟩ (by omega)
    rw [hn] at this
    exact this
  obtain ⟨⟨K0, x0⟩, hS0⟩ : ∃ R, stepD K (opCreate (L.last + 1)) = R := ⟨_, rfl⟩
  have E0 : Hid (addR K L f most = if x0 ≠ 0 then (K0, L, x0) else appendT K0 ⟨L.first, L.last + 1, 0⟩ f) := by show _ = _; rw [addR, if_pos hn, hS0]
  have HC0 : Hid (∀ W, WSt w0 W B P D K L → Calls Tryz.prog 46 #[.pointer (some ⟨D, 0, none⟩), .agg #[.int .i64 1, .string (segS (L.last + 1)), .string ⟨#[]⟩, .string ⟨#[]⟩, .int .i64 0]] W fun e w' => e = .returned (errV x0) ∧ x0 ≤ 6 ∧ WSt w0 w' B P D K0 L) := fun W hW => stepOf (opCreate (L.last + 1)) hW (opB_mk (by omega) (by omega) (by omega)) (by show (1 : Int) ≤ 4; omega) hS0
  have HW : Hid (WSt w0 w B P D K L) := h
  have hwl : IntKind.i64.wrap (L.last + 1) = L.last + 1 := by rw [IntKind.wrap_i64]; omega
  clear h hl hn hS0
  obtain ⟨c0, c1, c2, c3⟩ := HW.out.wr.cells
  have HK : Hid (∀ W K' , WSt w0 W B P D K' L → W.cell? ⟨P, 0, none⟩ = some (.pointer (some ⟨D, 0, none⟩)) ∧ W.cell? ⟨P, 2, none⟩ = some (.int .i64 L.last)) := fun W K' h => ⟨h.wr.cells.1, h.wr.cells.2.2.1⟩
  go_enter Tryz.func25, Tryz.ntmps25
  go_wp2_with fail
  refine HFU.out.mono ?_
  rintro e w' ⟨rfl, hw⟩; replace hw := hw.symm; subst hw
  go_wp2_with fail
  go_region_held3 (fun w' => w'.cell? ⟨P, 0, none⟩ = some (.pointer (some ⟨D, 0, none⟩)) ∧ w'.cell? ⟨P, 2, none⟩ = some (.int .i64 L.last))
    (first | exact HK.out _ _ HW8.out | exact HK.out _ _ HW7.out | exact HK.out _ _ (HW.out.later (Below.refl _ _).drew))
    (first
    | (go_at_call 47; refine (implSeg_any (L.last + 1) _ (HW.out.later (Below.refl _ _).drew).tab).mono ?_; rintro e w7 ⟨rfl, hb7⟩; have HW7 : Hid (WSt w0 w7 B P D K L) := (HW.out.later (Below.refl _ _).drew).later hb7)
    | (go_at_call 46; refine (HC0.out _ HW7.out).mono ?_; rintro e w8 ⟨rfl, h6, hw8⟩; have HW8 : Hid (WSt w0 w8 B P D K0 L) := hw8))
  clear c0 c1 c2 c3 HK HC0 HFU HW HW7 hb7 hw8
  by_cases hx0 : x0 = 0
  · subst hx0
    simp only [errV]
    have E1 : Hid (addR K L f most = appendT K0 ⟨L.first, L.last + 1, 0⟩ f) := by show _ = _; rw [E0.out, if_neg (by simp)]
    obtain ⟨_, _, c2, c3⟩ := HW8.out.wr.cells
    have q2 := Blk.free HW8.out.wr 2
    have HWA : Hid (WSt w0 (w8.setCell ⟨P, 2, none⟩ (.int .i64 (L.last + 1))) B P D K0 ⟨L.first, L.last + 1, L.size⟩) := HW8.out.set 2 _ (by simp)
    have c3' := HWA.out.wr.cells.2.2.2
    have q3 := Blk.free HWA.out.wr 3
    have HWB0 : Hid (WSt w0 ((w8.setCell ⟨P, 2, none⟩ (.int .i64 (L.last + 1))).setCell ⟨P, 3, none⟩ (.int .i64 0)) B P D K0 ⟨L.first, L.last + 1, 0⟩) := HWA.out.set 3 _ (by simp)
    have c2' := HWB0.out.wr.cells.2.2.1
    go_wp2_with fail
    refine (implSeg_any (L.last + 1) _ HWB0.out.tab).mono ?_
    rintro e w9 ⟨rfl, hb9⟩
    have HWB : Hid (WSt w0 w9 B P D K0 ⟨L.first, L.last + 1, 0⟩) := HWB0.out.later hb9
    clear hb9 HWB0 HWA HW8 c2 c3 c3' q2 q3 c2'
    obtain ⟨c0, _, _, _⟩ := HWB.out.wr.cells
    obtain ⟨⟨K1, x1⟩, hS1⟩ : ∃ R, stepD K0 (opAppend (L.last + 1) f) = R := ⟨_, rfl⟩
    have HS1 : Hid (stepD K0 (opAppend (L.last + 1) f) = (K1, x1)) := hS1
    have HC1 : Hid (Calls Tryz.prog 46 #[.pointer (some ⟨D, 0, none⟩), .agg #[.int .i64 2, .string (segS (L.last + 1)), .string ⟨#[]⟩, .string f, .int .i64 0]] w9 fun e w' => e = .returned (errV x1) ∧ x1 ≤ 6 ∧ WSt w0 w' B P D K1 ⟨L.first, L.last + 1, 0⟩) := stepOf (opAppend (L.last + 1) f) HWB.out (opB_mk (by omega) (by omega) (by omega)) (by show (2 : Int) ≤ 4; omega) hS1
    clear hS1
    go_wp2_with fail
    refine HC1.out.mono ?_
    rintro e w2 ⟨rfl, h6, hw2⟩
    have HW2 : Hid (WSt w0 w2 B P D K1 ⟨L.first, L.last + 1, 0⟩) := hw2
    clear hw2 c0 HC1
    by_cases hx : x1 = 0
    · subst hx
      simp only [errV]
      obtain ⟨c0, _, _, _⟩ := HW2.out.wr.cells
      obtain ⟨⟨K2, x2⟩, hS2⟩ : ∃ R, stepD K1 (opSync (L.last + 1)) = R := ⟨_, rfl⟩
      have HS2 : Hid (stepD K1 (opSync (L.last + 1)) = (K2, x2)) := hS2
      have HC2 : Hid (Calls Tryz.prog 46 #[.pointer (some ⟨D, 0, none⟩), .agg #[.int .i64 3, .string (segS (L.last + 1)), .string ⟨#[]⟩, .string ⟨#[]⟩, .int .i64 0]] w2 fun e w' => e = .returned (errV x2) ∧ x2 ≤ 6 ∧ WSt w0 w' B P D K2 ⟨L.first, L.last + 1, 0⟩) := stepOf (opSync (L.last + 1)) HW2.out (opB_mk (by omega) (by omega) (by omega)) (by show (3 : Int) ≤ 4; omega) hS2
      clear hS2 h6
      go_wp2_with fail
      refine HC2.out.mono ?_
      rintro e w3 ⟨rfl, h6, hw3⟩
      have HW3 : Hid (WSt w0 w3 B P D K2 ⟨L.first, L.last + 1, 0⟩) := hw3
      have EA : Hid (appendT K0 ⟨L.first, L.last + 1, 0⟩ f = if x2 ≠ 0 then (K2, ⟨L.first, L.last + 1, 0⟩, x2) else (K2, ⟨L.first, (L.last + 1), 0 + f.size⟩, 0)) := appendT_sync (L := ⟨L.first, L.last + 1, 0⟩) HS1.out rfl HS2.out
      clear hw3 c0 HC2
      by_cases hx : x2 = 0
      · subst hx
        simp only [errV]
        have EB : Hid (addR K L f most = (K2, ⟨L.first, (L.last + 1), 0 + f.size⟩, 0)) := by show _ = _; rw [E1.out, EA.out, if_neg (by simp)]
        have HWF : Hid (WSt w0 (w3.setCell ⟨P, 3, none⟩ (.int .i64 (f.size : Int))) B P D K2 ⟨L.first, (L.last + 1), 0 + f.size⟩) := HW3.out.set 3 _ (by simp)
        obtain ⟨_, _, _, c3⟩ := HW3.out.wr.cells
        have q3 := Blk.free HW3.out.wr 3
        have hwz : IntKind.i64.wrap ((0 : Int) + (f.size : Int)) = (0 : Int) + (f.size : Int) := by rw [IntKind.wrap_i64]; omega
        go_wp2
        go_ret
        rw [EB.out]
        exact ⟨rfl, by omega, HWF.out⟩
      · obtain ⟨t, ht⟩ := errV_iface hx h6
        have EB : Hid (addR K L f most = (K2, ⟨L.first, L.last + 1, 0⟩, x2)) := by show _ = _; rw [E1.out, EA.out, if_pos hx]
        have HT : Hid (errV x2 = .iface 79 (.string t)) := ht
        rw [ht]
        clear ht
        go_wp2
        go_ret
        rw [EB.out]
        exact ⟨by rw [HT.out]; rfl, h6, HW3.out⟩
    · obtain ⟨t, ht⟩ := errV_iface hx h6
      have EB : Hid (addR K L f most = (K1, ⟨L.first, L.last + 1, 0⟩, x1)) := by show _ = _; rw [E1.out, appendT_fail (L := ⟨L.first, L.last + 1, 0⟩) HS1.out hx]
      have HT : Hid (errV x1 = .iface 79 (.string t)) := ht
      rw [ht]
      clear ht
      go_wp2
      go_ret
      rw [EB.out]
      exact ⟨by rw [HT.out]; rfl, h6, HW2.out⟩
  · obtain ⟨t, ht⟩ := errV_iface hx0 h6
    have EB : Hid (addR K L f most = (K0, L, x0)) := by show _ = _; rw [E0.out, if_pos hx0]
    have HT : Hid (errV x0 = .iface 79 (.string t)) := ht
    rw [ht]
    clear ht
    go_wp2
    go_ret
    rw [EB.out]
    exact ⟨by rw [HT.out]; rfl, h6, HW8.out⟩
end Go.Proofs.YtboofidegpnkaaaGreatDoor
namespace Go.Proofs.YtboofidegpnkaaaGreatDoor
open Go.RowKit
theorem appendD_ref {K : DiskD} {L : LogD} {p : ByteArray} {most : Int} (h : refR L p most ≠ 0) : appendD K L p most = (K, L, refR L p most) := by
  have hfe : frameS p = ByteArray.empty ↔ btwB p.size 1 60000 = false := by
    constructor
    · intro e
      rw [Bool.eq_false_iff]
      intro hb
      have hz : 1 ≤ p.size ∧ p.size ≤ 60000 := by simp only [btwB, Bool.and_eq_true, decide_eq_true_eq] at hb; omega
      have := frameS_size hz
      rw [e, ByteArray.size_empty] at this
      omega
    · intro hb
      rw [frameS, if_neg]
      intro hz
      have : btwB p.size 1 60000 = true := by simp [btwB]; omega
      rw [this] at hb
      cases hb
  unfold refR at h ⊢
  unfold appendD
  split
  · rfl
  · rename_i h1
    rw [if_neg h1] at h
    by_cases h2 : btwB p.size 1 60000 = false
    · rw [if_pos h2, if_pos (hfe.2 h2)]
    · rw [if_neg h2, if_neg (fun e => h2 (hfe.1 e))]
      rw [if_neg h2] at h
      by_cases h3 : L.last = 999999 ∧ fullB L (8 + p.size) most = true
      · rw [if_pos h3]
        have hz : 1 ≤ p.size ∧ p.size ≤ 60000 := by
          have : btwB p.size 1 60000 = true := by simpa using h2
          simp only [btwB, Bool.and_eq_true, decide_eq_true_eq] at this; omega
        have hs := frameS_size hz
        have h4 := h3.2
        simp only [fullB, Bool.and_eq_true, decide_eq_true_eq] at h4
        rw [if_pos ⟨h4.1, by rw [hs]; have := h4.2; simp only [Int.natCast_add]; omega⟩, if_pos h3.1]
      · rw [if_neg h3] at h
        exact absurd rfl h
theorem appendD_add {K : DiskD} {L : LogD} {p : ByteArray} {most : Int} (h : refR L p most = 0) : appendD K L p most = addR K L (frameS p) most ∧ logB L = true ∧ (frameS p).size ≤ 60008 ∧ (fullB L (frameS p).size most = true → L.last ≠ 999999) := by
  unfold refR at h
  split at h
  · cases h
  · rename_i h1
    split at h
    · cases h
    · rename_i h2
      split at h
      · cases h
      · rename_i h3
        have hz : 1 ≤ p.size ∧ p.size ≤ 60000 := by
          have : btwB p.size 1 60000 = true := by simpa using h2
          simp only [btwB, Bool.and_eq_true, decide_eq_true_eq] at this; omega
        have hs := frameS_size hz
        have hl : (logB L && btwB most 1 1000000000) = true := by simpa using h1
        simp only [Bool.and_eq_true] at hl
        have hne : ¬ frameS p = ByteArray.empty := fun e => by rw [e, ByteArray.size_empty] at hs; omega
        have e8 : (((frameS p).size : Nat) : Int) = 8 + (p.size : Int) := by rw [hs]; omega
        refine ⟨?_, hl.1, by omega, fun hf h9 => h3 ⟨h9, by rw [← e8]; exact hf⟩⟩
        unfold appendD addR
        rw [if_neg h1, if_neg hne]
        by_cases hf : fullB L (frameS p).size most = true
        · rw [if_pos hf]
          have h4 := hf
          simp only [fullB, Bool.and_eq_true, decide_eq_true_eq] at h4
          rw [if_pos h4, if_neg (fun h9 => h3 ⟨h9, by rw [← e8]; exact hf⟩)]
        · rw [if_neg hf, if_neg]
          intro h4
          apply hf
          simp [fullB, h4.1, h4.2]
theorem addR_bad {K : DiskD} {L : LogD} {f : ByteArray} {most : Int} (h : diskB K.fs K.c K.k K.cr K.fl = false) : addR K L f most = (⟨[], 0, 0, 0, 0, false⟩, L, 6) := by
  have hs : ∀ op, stepD K op = (⟨[], 0, 0, 0, 0, false⟩, 6) := fun op => by
    unfold stepD outR
    rw [if_neg (by simp [h])]
  unfold addR
  split
  · rw [hs, if_pos (by simp)]
  · unfold appendT
    rw [hs, if_pos (by simp)]
end Go.Proofs.YtboofidegpnkaaaGreatDoor
