import Derived.Test.YtoecnlhnfhongaaDoorProg
import Derived.Test.YtoecnlhnfhongaaDoorJ04AppA
import Derived.Test.YtoecnlhnfhongaaDoorJ01SmpB
namespace Go.Proofs.YtoecnlhnfhongaaDoor
open Go.RowKit

set_option maxHeartbeats 400000 in
theorem eqLabel_same (nm da : ByteArray) (w : World) :
    Calls Tryd.prog 67 #[.agg #[.string nm, .string da], .agg #[.string nm, .string da]] w fun e w' => e = .returned (.bool true) ∧ Below w.heap.size w w' := by
  go_enter Tryd.func67, Tryd.ntmps67
  go_wp2
  go_ret
  exact ⟨rfl, ((Below.refl _ _).alloc (Nat.le_refl _) _).alloc (by simp) _⟩
set_option maxHeartbeats 1000000 in
theorem eqLabelS_same (a a' : Option Addr) (cap cap' : Nat) (fs : List LabD) (w : World) (hf : LabsIn w a fs) (hf' : LabsIn w a' fs) (hlen : fs.length ≤ maxLen) :
    Calls Tryd.prog 57 #[.slice a fs.length cap, .slice a' fs.length cap'] w fun e w' => e = .returned (.bool true) ∧ Below w.heap.size w w' := by
  unfold maxLen at hlen
  have HF : Hid (LabsIn w a fs) := hf
  have HF' : Hid (LabsIn w a' fs) := hf'
  clear hf hf'
  go_enter Tryd.func57, Tryd.ntmps57
  go_wp2
  go_loopw [5] (fun i wr => ∃ k : Nat, k ≤ fs.length ∧ i = .int .i64 k ∧ Below w.heap.size w wr) (fun i _ => fs.length - (intOf i).toNat)
  case atStart => exact ⟨0, Nat.zero_le _, rfl, Below.refl _ _⟩
  case round =>
    obtain ⟨k, hk, rfl, hbel⟩ := hrel
    by_cases hlt : k < fs.length
    · obtain ⟨b, o, rfl, hb, c0, c1⟩ := (HF.out.later hbel).at hlt
      obtain ⟨b', o', rfl, hb', c0', c1'⟩ := (HF'.out.later hbel).at hlt
      have d0 := Later.cells c0
      have d1 := Later.cells c1
      have d0' := Later.cells c0'
      have d1' := Later.cells c1'
      clear c0 c1 c0' c1'
      have hne := Later.there wr
      go_wp2_with fail
      refine wp_region_later (by kernel_rfl) (by kernel_rfl) ?_
      repeat (go_big_quiet_step (refine calls_later (eqLabel_same _ _ _)))
      refine wpQuiet_nil ?_
      rintro _ ⟨x, rfl⟩
      go_wp2
      exact ⟨⟨k + 1, by omega, by go_num, hbel.trans (x.h.mono hbel.size)⟩, by simp [intOf]; omega⟩
    · go_wp2
      go_ret
      exact ⟨rfl, hbel⟩

end Go.Proofs.YtoecnlhnfhongaaDoor

namespace Go.Proofs.YtoecnlhnfhongaaDoor
open Go.RowKit

set_option maxRecDepth 100000 in
set_option maxHeartbeats 1000000 in
theorem eqSample_same (f : SmpD) (a1 b1 : Option Addr) (c1 d1 : Nat) (w : World) (p1 : LabsIn w a1 f.labs) (q1 : LabsIn w b1 f.labs) (l1 : f.labs.length ≤ maxLen) :
    Calls Tryd.prog 45 #[.agg #[.slice a1 f.labs.length c1, .int .i64 f.bits], .agg #[.slice b1 f.labs.length d1, .int .i64 f.bits]] w fun e w' => e = .returned (.bool true) ∧ Below w.heap.size w w' := by
  have HM : Hid (∀ W, Below w.heap.size w W → Calls Tryd.prog 57 #[.slice a1 f.labs.length c1, .slice b1 f.labs.length d1] W fun e w' => e = .returned (.bool true) ∧ Below W.heap.size W w') :=
    fun W hW => eqLabelS_same a1 b1 c1 d1 f.labs W (p1.later hW) (q1.later hW) l1
  clear p1 q1
  go_enter Tryd.func45, Tryd.ntmps45
  go_wp2_with fail
  refine (HM.out _ (bto (bnew _ _) (bnew _ _))).mono ?_
  rintro e w1 ⟨rfl, hb1⟩
  have B1 : Hid (Below w.heap.size w w1) := bto (bto (bnew _ _) (bnew _ _)) hb1
  have t0 : w1.cell? ⟨w.heap.size, 1, none⟩ = some (.int .i64 f.bits) := (((Blk.new w _ _).alloc _).later hb1).cell 1
  have t1 : w1.cell? ⟨w.heap.size + 1, 1, none⟩ = some (.int .i64 f.bits) := by
    have := ((Blk.new (w.alloc (.cells #[.slice a1 f.labs.length c1, .int .i64 f.bits] 54)) #[.slice b1 f.labs.length d1, .int .i64 f.bits] 54).later hb1).cell 1
    simpa using this
  clear hb1
  go_wp2
  go_ret
  exact ⟨rfl, B1.out⟩

def LenX (fs : List SmpD) : Prop := ∀ i (h : i < fs.length), fs[i].labs.length ≤ maxLen
set_option maxRecDepth 100000 in
set_option maxHeartbeats 2000000 in
theorem eqSampleS_same (a a' : Option Addr) (cap cap' : Nat) (fs : List SmpD) (w : World) (hf : SmpsIn w a fs) (hf' : SmpsIn w a' fs) (hlen : fs.length ≤ maxLen) (hl : LenX fs) :
    Calls Tryd.prog 22 #[.slice a fs.length cap, .slice a' fs.length cap'] w fun e w' => e = .returned (.bool true) ∧ Below w.heap.size w w' := by
  unfold maxLen at hlen
  have HF : Hid (SmpsIn w a fs) := hf
  have HF' : Hid (SmpsIn w a' fs) := hf'
  have HL : Hid (LenX fs) := hl
  clear hf hf' hl
  go_enter Tryd.func22, Tryd.ntmps22
  go_wp2
  go_loopw [5] (fun i wr => ∃ k : Nat, k ≤ fs.length ∧ i = .int .i64 k ∧ Below w.heap.size w wr) (fun i _ => fs.length - (intOf i).toNat)
  case atStart => exact ⟨0, Nat.zero_le _, rfl, Below.refl _ _⟩
  case round =>
    obtain ⟨k, hk, rfl, hbel⟩ := hrel
    by_cases hlt : k < fs.length
    · obtain ⟨b, o, a1, q1, rfl, hb, c0, c1, p1⟩ := (HF.out.later hbel).at hlt
      obtain ⟨b', o', b1, r1, rfl, hb', e0, e1, s1⟩ := (HF'.out.later hbel).at hlt
      have d0 := Later.cells c0
      have d1 := Later.cells c1
      have g0 := Later.cells e0
      have g1 := Later.cells e1
      have HC : Hid (∀ x : Later wr, Calls Tryd.prog 45 #[.agg #[.slice a1 fs[k].labs.length q1, .int .i64 fs[k].bits], .agg #[.slice b1 fs[k].labs.length r1, .int .i64 fs[k].bits]] x.w' fun e w' => e = .returned (.bool true) ∧ Below x.w'.heap.size x.w' w') :=
        fun x => eqSample_same fs[k] _ _ _ _ x.w' (p1.later x.h) (s1.later x.h) (HL.out k hlt)
      clear c0 c1 e0 e1 p1 s1
      have hne := Later.there wr
      go_wp2_with fail
      refine wp_region_later (by kernel_rfl) (by kernel_rfl) ?_
      repeat (go_big_quiet_step (exact calls_later (HC.out _)))
      refine wpQuiet_nil ?_
      rintro _ ⟨x, rfl⟩
      go_wp2
      exact ⟨⟨k + 1, by omega, by go_num, hbel.trans (x.h.mono hbel.size)⟩, by simp [intOf]; omega⟩
    · go_wp2
      go_ret
      exact ⟨rfl, hbel⟩

set_option maxRecDepth 100000 in
set_option maxHeartbeats 1000000 in
theorem eqRequest_same (r : ReqD) (a a' : Option Addr) (cap cap' : Nat) (w : World) (hf : SmpsIn w a r.smps) (hf' : SmpsIn w a' r.smps) (hlen : r.smps.length ≤ maxLen) (hl : LenX r.smps) :
    Calls Tryd.prog 9 #[.agg #[.int .i64 r.kind, .string r.tenant, .string r.metric, .int .i64 r.num, .slice a r.smps.length cap], .agg #[.int .i64 r.kind, .string r.tenant, .string r.metric, .int .i64 r.num, .slice a' r.smps.length cap']] w fun e w' => e = .returned (.bool true) ∧ Below w.heap.size w w' := by
  have HC : Hid (∀ W, Below w.heap.size w W → Calls Tryd.prog 22 #[.slice a r.smps.length cap, .slice a' r.smps.length cap'] W fun e w' => e = .returned (.bool true) ∧ Below W.heap.size W w') :=
    fun W hW => eqSampleS_same a a' cap cap' r.smps W (hf.later hW) (hf'.later hW) hlen hl
  clear hf hf' hl
  go_enter Tryd.func9, Tryd.ntmps9
  go_wp2_with fail
  refine (HC.out _ (bto (bnew _ _) (bnew _ _))).mono ?_
  rintro e w1 ⟨rfl, hb1⟩
  have B1 : Hid (Below w.heap.size w w1) := bto (bto (bnew _ _) (bnew _ _)) hb1
  clear hb1
  go_wp2
  go_ret
  exact ⟨rfl, B1.out⟩
end Go.Proofs.YtoecnlhnfhongaaDoor

namespace Go.Proofs.YtoecnlhnfhongaaDoor
open Go.RowKit

theorem conv_one (w : World) (n : Int) : (convert 69 9 (.slice (some ⟨w.heap.size, 0, none⟩) 1 1)).run Tryd.prog (w.alloc (.cells #[.int .u8 n] 5)) = .ok (.string ⟨#[UInt8.ofNat n.toNat]⟩) (w.alloc (.cells #[.int .u8 n] 5)) := by
  rw [run_convert_bytes_string _ 69 9 5 _ 1 1 Tryd.underlying69 Tryd.underlying5 Tryd.underlying9, run_bytesToString _ _ 1 1 [n] (by simp [go_sem, loadCells])]
  rfl

theorem str_one (c : UInt8) (s : ByteArray) : ((⟨#[c]⟩ : ByteArray) ++ s).data.toList = c :: s.data.toList := by
  simp

theorem str_one_size (c : UInt8) (s : ByteArray) : ((⟨#[c]⟩ : ByteArray) ++ s).size = s.size + 1 := by
  rw [ByteArray.size_append]; show 1 + s.size = _; omega

theorem mk_toList (s : ByteArray) (l : List UInt8) (h : s.data.toList = l) : s = ⟨l.toArray⟩ := by
  subst h; simp

end Go.Proofs.YtoecnlhnfhongaaDoor

namespace Go.Proofs.YtoecnlhnfhongaaDoor
open Go.RowKit

theorem digits_pos {n : Nat} (h : 0 < n) (acc : List UInt8) : digits n n acc = digits (n / 10) (n / 10) ((48 + UInt8.ofNat (n % 10)) :: acc) := by
  obtain ⟨m, rfl⟩ : ∃ m, n = m + 1 := ⟨n - 1, by omega⟩
  conv => lhs; rw [digits]
  rw [if_neg (by omega)]
  exact digits_fuel _ _ _ _ (by omega) (Nat.le_refl _)

set_option maxRecDepth 100000 in
set_option maxHeartbeats 1000000 in
theorem markText_any (k : Nat) (w : World) (h0 : 0 < k) (h1 : k ≤ 1000000000) :
    Calls Tryd.prog 61 #[.int .i64 (k : Int)] w fun e w' => e = .returned (.string (mt k)) ∧ Below w.heap.size w w' := by
  have hk : ¬ ((k : Int) ≤ 0) := by omega
  have hcv := conv_one
  go_enter Tryd.func61, Tryd.ntmps61
  go_wp2
  go_loopw [0, 3] (fun a s wr => ∃ (n : Nat) (st : ByteArray), st.size + n ≤ k ∧ a = .int .i64 n ∧ s = .string st ∧ digits n n st.data.toList = digits k k [] ∧ Below w.heap.size w wr) (fun a _ _ => (intOf a).toNat)
  case atStart => exact ⟨k, ByteArray.empty, by simp, rfl, rfl, rfl, Below.refl _ _⟩
  case round =>
    obtain ⟨n, st, hn, rfl, rfl, hd, hbel⟩ := hrel
    have HD : Hid (digits n n st.data.toList = digits k k []) := hd
    clear hd
    have hsz : (st.size : Int) ≤ 1000000000 := by omega
    by_cases hp : 0 < n
    · go_wp2
      refine ⟨⟨n / 10, _, ?_, by go_num, rfl, ?_, hbel.alloc hbel.size _⟩, by simp [intOf]; omega⟩
      · rw [str_one_size]; omega
      · rw [str_one, ← digits_pos hp]; exact HD.out
    · go_wp2
      go_ret
      refine ⟨?_, hbel⟩
      have e0 : n = 0 := by omega
      have hd := HD.out
      rw [e0] at hd
      have e : st.data.toList = digits k k [] := by rw [← hd]; rfl
      have e2 : ((⟨#[109]⟩ : ByteArray) ++ st) = mt k := by
        unfold mt
        exact mk_toList _ _ (by rw [str_one, e])
      exact congrArg (fun x => Ending.returned (.string x)) e2

theorem markText_int (k : Int) (n : Nat) (hk : k = (n : Int)) (w : World) (h0 : 0 < n) (h1 : n ≤ 1000000000) :
    Calls Tryd.prog 61 #[.int .i64 k] w fun e w' => e = .returned (.string (mt n)) ∧ Below w.heap.size w w' := hk ▸ markText_any n w h0 h1
end Go.Proofs.YtoecnlhnfhongaaDoor

namespace Go.Proofs.YtoecnlhnfhongaaDoor
open Go.RowKit

set_option maxRecDepth 100000 in
set_option maxHeartbeats 2000000 in
theorem markLabelS_any (a : Option Addr) (cap : Nat) (fs : List LabD) (k B : Nat) (w : World) (hk : 0 < k) (hk2 : k + 2 * fs.length ≤ 100000000) (hf : LabsOwn w B a fs) :
    Calls Tryd.prog 50 #[.slice a fs.length cap, .int .i64 (k : Int)] w fun e w' => e = .returned (.int .i64 ((k + 2 * fs.length : Nat) : Int)) ∧ Marked w w' B a fs.length ∧ LabsOwn w' B a (markLabs k fs.length) := by
  have hf3 : fs = [] ∨ (0 < fs.length ∧ ∃ g o cur t, a = some ⟨g, o, none⟩ ∧ B ≤ g ∧ w.heap[g]? = some (.cells cur t (0, 0)) ∧ LabsAt w g o fs) := by
    by_cases h0 : fs = []
    · exact Or.inl h0
    · rcases hf with h | h
      · exact Or.inl h
      · exact Or.inr ⟨List.length_pos_iff.2 h0, h⟩
  clear hf
  rcases hf3 with rfl | ⟨hpos, g, o, cur, t, rfl, hB, hg, hfs⟩
  · go_enter Tryd.func50, Tryd.ntmps50
    go_wp2
    go_loopw [1, 5] (fun l i wr => l = .int .i64 (k : Int) ∧ i = .int .i64 0 ∧ wr = w) (fun _ i _ => 0)
    case atStart => exact ⟨rfl, rfl, rfl⟩
    case round =>
      obtain ⟨rfl, rfl, rfl⟩ := hrel
      go_wp2
      go_ret
      exact ⟨rfl, Or.inl ⟨rfl, Below.refl _ _⟩, Or.inl rfl⟩
  have hrow : ∀ j (hj : j < fs.length), RowLab cur o j fs[j] := rows_of_labsAt hg hfs
  have hsz2 := labs_size hrow
  have HG : Hid (Blk w g cur t) := hg
  clear hrow hg hfs
  generalize fs.length = n at *
  go_enter Tryd.func50, Tryd.ntmps50
  go_wp2
  go_loopw [1, 5] (fun l i wr => ∃ (j : Nat) (c : Array Value), j ≤ n ∧ i = .int .i64 j ∧ l = .int .i64 ((k + 2 * j : Nat) : Int) ∧ Blk wr g c t ∧ c.size = cur.size ∧ (∀ m, m < j → RowLab c o m (markB k m)) ∧ But g w wr) (fun _ i _ => n - (intOf i).toNat)
  case atStart => exact ⟨0, cur, Nat.zero_le _, rfl, rfl, HG.out, rfl, fun m h => absurd h (by omega), But.refl _ _⟩
  case round =>
    obtain ⟨j, c, hj, rfl, rfl, hblk, hcs, hrows, hbut⟩ := hrel
    have HBLK : Hid (Blk wr g c t) := hblk
    have HROWS : Hid (∀ m, m < j → RowLab c o m (markB k m)) := hrows
    have HCS : Hid (c.size = cur.size) := hcs
    clear hblk hrows
    by_cases hlt : j < n
    · have hbd : o + j * 2 + 1 < c.size := by rcases hsz2 with h | h <;> omega
      clear hcs hsz2
      go_wp2_with fail
      refine (markText_int _ (k + 2 * j) (by omega) _ (by omega) (by omega)).mono ?_
      rintro e w1 ⟨rfl, hb1⟩
      have hB1 := HBLK.out.later hb1
      obtain ⟨v0, d0⟩ := hB1.there (j := o + j * 2) (by omega)
      have f0 := hB1.free (o + j * 2)
      have HB1 : Hid (Blk w1 g c t) := hB1
      clear hB1
      go_wp2_with fail
      refine (markText_int _ (k + 2 * j + 1) (by omega) _ (by omega) (by omega)).mono ?_
      rintro e w2 ⟨rfl, hb2⟩
      have hB2 := (HB1.out.set (o + j * 2) (.string (mt (k + 2 * j)))).later hb2
      obtain ⟨v1, d1⟩ := hB2.there (j := o + j * 2 + 1) (by simp; omega)
      have f1 := hB2.free (o + j * 2 + 1)
      have HB2 : Hid (Blk w2 g (c.setIfInBounds (o + j * 2) (.string (mt (k + 2 * j)))) t) := hB2
      have HBUT : Hid (But g w w2) := ((hbut.trans (But.of hb1)).setCell _ _).trans (But.of hb2)
      clear hB2 d0 f0 hb1 hb2 hbut
      go_wp2
      refine ⟨⟨j + 1, _, by omega, by go_num, by go_num, HB2.out.set (o + j * 2 + 1) (.string (mt (k + 2 * j + 1))), by simp [HCS.out], ?_, HBUT.out.setCell _ _⟩, by simp [intOf]; omega⟩
      intro m hm
      by_cases e : m = j
      · subst e
        exact RowLab.made c o m (markB k m) hbd
      · exact ((HROWS.out m (by omega)).set (by omega) _).set (by omega) _
    · go_wp2
      go_ret
      have e : j = n := by omega
      subst e
      refine ⟨ret_int (by omega), Or.inr ⟨hpos, g, o, rfl, hB, hbut⟩, Or.inr ⟨g, o, c, t, rfl, hB, HBLK.out, labsAt_of_rows HBLK.out ?_⟩⟩
      intro m hm
      rw [markLabs_get]
      exact HROWS.out m (by rw [markLabs_length] at hm; exact hm)

set_option maxRecDepth 100000 in
set_option maxHeartbeats 2000000 in
theorem heldLabelS_any (a : Option Addr) (cap : Nat) (k n : Nat) (w : World) (hk : 0 < k) (hk2 : k + 2 * n ≤ 100000000) (hf : LabsIn w a (markLabs k n)) :
    Calls Tryd.prog 51 #[.slice a n cap, .int .i64 (k : Int)] w fun e w' => e = .returned (.int .i64 ((k + 2 * n : Nat) : Int)) ∧ Below w.heap.size w w' := by
  have HF : Hid (LabsIn w a (markLabs k n)) := hf
  clear hf
  go_enter Tryd.func51, Tryd.ntmps51
  go_wp2
  go_loopw [1, 5] (fun l i wr => ∃ j : Nat, j ≤ n ∧ i = .int .i64 j ∧ l = .int .i64 ((k + 2 * j : Nat) : Int) ∧ Below w.heap.size w wr) (fun _ i _ => n - (intOf i).toNat)
  case atStart => exact ⟨0, Nat.zero_le _, rfl, rfl, Below.refl _ _⟩
  case round =>
    obtain ⟨j, hj, rfl, rfl, hbel⟩ := hrel
    by_cases hlt : j < n
    · obtain ⟨b, o, rfl, hb, c0, c1⟩ := (HF.out.later hbel).at (i := j) (by rw [markLabs_length]; exact hlt)
      rw [markLabs_get] at c0 c1
      simp only [markB] at c0 c1
      have d0 := Later.cells c0
      have hne := Later.there wr
      have HC : Hid (wr.cell? ⟨b, o + j * 2 + 1, none⟩ = some (.string (mt (k + 2 * j + 1)))) := c1
      clear c0 c1
      go_wp2_with fail
      refine wp_region_later (by kernel_rfl) (by kernel_rfl) ?_
      repeat (go_big_quiet_step (first | (go_at_call 61; exact calls_later (markText_int _ (k + 2 * j) (by omega) _ (by omega) (by omega)))))
      refine wpQuiet_nil ?_
      rintro _ ⟨x, rfl⟩
      have d1 := Later.cells (x.cell HC.out)
      have hne2 := Later.there x.w'
      have HX : Hid (Below w.heap.size w x.w') := bto hbel x.h
      clear d0 hne HC hbel
      generalize x.w' = W at *
      clear x
      go_wp2_with fail
      refine wp_region_later (by kernel_rfl) (by kernel_rfl) ?_
      repeat (go_big_quiet_step (first | (go_at_call 61; exact calls_later (markText_int _ (k + 2 * j + 1) (by omega) _ (by omega) (by omega)))))
      refine wpQuiet_nil ?_
      rintro _ ⟨y, rfl⟩
      have HY : Hid (Below w.heap.size w y.w') := bto HX.out y.h
      clear d1 hne2
      generalize y.w' = W2 at *
      clear y
      go_wp2
      exact ⟨⟨j + 1, by omega, by go_num, by go_num, HY.out⟩, by simp [intOf]; omega⟩
    · go_wp2
      go_ret
      have e : j = n := by omega
      subst e
      exact ⟨ret_int (by omega), hbel⟩
end Go.Proofs.YtoecnlhnfhongaaDoor

namespace Go.Proofs.YtoecnlhnfhongaaDoor
open Go.RowKit

theorem markLabelS_tag (kI : Int) (a : Option Addr) (cap : Nat) (ps : List LabD) (k B n0 : Nat) (T : Nat → Nat) (w : World) (hkI : kI = (k : Int)) (hk : 0 < k) (hk2 : k + 2 * ps.length ≤ 100000000) (hf : LabsTag w B T n0 a ps) :
    Calls Tryd.prog 50 #[.slice a ps.length cap, .int .i64 kI] w fun e w' => e = .returned (.int .i64 ((k + 2 * ps.length : Nat) : Int)) ∧ Turn (fun g => B ≤ g ∧ T g = n0) w w' ∧ LabsTag w' B T n0 a (markLabs k ps.length) := by
  subst hkI
  refine (markLabelS_any a cap ps k B w hk hk2 hf.own).mono ?_
  rintro e w' ⟨rfl, hm, ho⟩
  refine ⟨rfl, ?_, ?_⟩
  · rcases hm with ⟨_, h⟩ | ⟨hpos, g, o, rfl, hB, hb⟩
    · exact Turn.of h
    · rcases hf with rfl | ⟨g', o', cur, t, e, _, hT, _⟩
      · simp at hpos
      · cases e
        exact (Turn.but hb).mono fun i _ e => by subst e; exact ⟨hB, hT⟩
  · rcases hf with rfl | ⟨g', o', cur, t, e, _, hT, _⟩
    · exact Or.inl (List.length_eq_zero_iff.1 (by rw [markLabs_length]; rfl))
    · exact ho.tag fun g o e' => by rw [e] at e'; cases e'; exact hT
theorem heldLabelS_int (kI : Int) (a : Option Addr) (cap : Nat) (k n : Nat) (w : World) (hkI : kI = (k : Int)) (hk : 0 < k) (hk2 : k + 2 * n ≤ 100000000) (hf : LabsIn w a (markLabs k n)) :
    Calls Tryd.prog 51 #[.slice a n cap, .int .i64 kI] w fun e w' => e = .returned (.int .i64 ((k + 2 * n : Nat) : Int)) ∧ Below w.heap.size w w' := hkI ▸ heldLabelS_any a cap k n w hk hk2 hf

def smpLen (x : SmpD) : Nat := 2 * x.labs.length + 1
def smpsLen : List SmpD → Nat
  | [] => 0
  | t :: r => smpLen t + smpsLen r
theorem smpsLen_append (a b : List SmpD) : smpsLen (a ++ b) = smpsLen a + smpsLen b := by
  induction a with
  | nil => simp [smpsLen]
  | cons f r ih => simp [smpsLen, ih]; omega
theorem smpsLen_take (ts : List SmpD) (j : Nat) (h : j < ts.length) : smpsLen (ts.take (j + 1)) = smpsLen (ts.take j) + smpLen ts[j] := by
  rw [List.take_succ_eq_append_getElem h, smpsLen_append]; simp [smpsLen]
theorem smpsLen_le (ts : List SmpD) (j : Nat) : smpsLen (ts.take j) ≤ smpsLen ts := by
  have := smpsLen_append (ts.take j) (ts.drop j)
  rw [List.take_append_drop] at this; omega
theorem smps_le_len (ts : List SmpD) : ts.length ≤ smpsLen ts := by
  induction ts with
  | nil => exact Nat.zero_le _
  | cons t r ih => simp only [List.length_cons, smpsLen, smpLen]; omega
theorem smpsLen_bulk (ts : List SmpD) : smpsLen ts ≤ 2 * smpsBulk ts + ts.length := by
  induction ts with
  | nil => exact Nat.zero_le _
  | cons t r ih => simp only [List.length_cons, smpsLen, smpLen, smpsBulk, smpBulk]; omega
def markSmp (k : Nat) (x : SmpD) : SmpD := ⟨markLabs k x.labs.length, ((k + 2 * x.labs.length : Nat) : Int)⟩
def markAtX (k : Nat) (ts : List SmpD) (i : Nat) (t : SmpD) : SmpD := markSmp (k + smpsLen (ts.take i)) t
def markSmps (k : Nat) (ts : List SmpD) : List SmpD := ts.mapIdx (markAtX k ts)
theorem markSmps_length (k : Nat) (ts : List SmpD) : (markSmps k ts).length = ts.length := by simp [markSmps]
theorem markSmps_get {k : Nat} {ts : List SmpD} {i : Nat} (h : i < (markSmps k ts).length) (h' : i < ts.length) : (markSmps k ts)[i] = markSmp (k + smpsLen (ts.take i)) ts[i] := by simp [markSmps, markAtX]

/-- The two cells of a sample in a row. -/
def RowSmp (c : Array Value) (p : Nat) (t : SmpD) (a1 : Option Addr) (c1 : Nat) : Prop :=
  c[p]? = some (.slice a1 t.labs.length c1) ∧ c[p + 1]? = some (.int .i64 t.bits)
def SmpRow (w : World) (B : Nat) (T : Nat → Nat) (c : Array Value) (o i : Nat) (t : SmpD) : Prop :=
  ∃ a1 c1, RowSmp c (o + i * 2) t a1 c1 ∧ LabsTag w B T (i + 1) a1 t.labs
theorem SmpOwn.row {w : World} {B i g o : Nat} {T : Nat → Nat} {t : SmpD} {c : Array Value} {ty : TypeId} (h : SmpOwn w B T i g (o + i * 2) t) (hb : Blk w g c ty) : SmpRow w B T c o i t := by
  obtain ⟨a1, c1, h0, h1, h4⟩ := h
  rw [hb.cell] at h0 h1
  exact ⟨a1, c1, ⟨h0, h1⟩, h4⟩
theorem SmpRow.own {w : World} {B i g o : Nat} {T : Nat → Nat} {t : SmpD} {c : Array Value} {ty : TypeId} (h : SmpRow w B T c o i t) (hb : Blk w g c ty) : SmpOwn w B T i g (o + i * 2) t := by
  obtain ⟨a1, c1, ⟨h0, h1⟩, h4⟩ := h
  exact ⟨a1, c1, (hb.cell _).trans h0, (hb.cell _).trans h1, h4⟩
theorem RowSmp.set {c : Array Value} {p : Nat} {t : SmpD} {a1 : Option Addr} {c1 : Nat} (h : RowSmp c p t a1 c1) {q : Nat} (hq : q < p ∨ p + 1 < q) (v : Value) : RowSmp (c.setIfInBounds q v) p t a1 c1 := by
  obtain ⟨h0, h1⟩ := h
  refine ⟨?_, ?_⟩
  · rw [Array.getElem?_setIfInBounds_ne (by omega)]; exact h0
  · rw [Array.getElem?_setIfInBounds_ne (by omega)]; exact h1
theorem LabsTag.turn {S : Nat → Prop} {w w' : World} {B n : Nat} {T : Nat → Nat} {a : Option Addr} {ps : List LabD} (h : LabsTag w B T n a ps) (ht : Turn S w w') (hS : ∀ g, T g = n → ¬ S g) : LabsTag w' B T n a ps :=
  h.keep fun g hg _ hT => ⟨ht.block g hg (hS g hT), hT⟩
/-- One sample marked. -/
theorem markX_step {w w3 w4 : World} {B o j K k : Nat} {T : Nat → Nat} {g : Nat} {c : Array Value} {ts : List SmpD} {a1 : Option Addr} {c1 : Nat} (hTg : T g = 0) (hj : j < ts.length)
    (hr : ∀ i (h : i < ts.length), i ≠ j → SmpRow w B T c o i (if i < j then markSmp (k + smpsLen (ts.take i)) ts[i] else ts[i])) (hrow : RowSmp c (o + j * 2) ts[j] a1 c1) (hK : K = k + smpsLen (ts.take j))
    (h3 : Turn (fun g => B ≤ g ∧ T g = j + 1) w w3) (h4 : But g w3 w4) (p1 : LabsTag w3 B T (j + 1) a1 (markLabs K ts[j].labs.length)) :
    ∀ i (h : i < ts.length), SmpRow w4 B T (c.setIfInBounds (o + j * 2 + 1) (.int .i64 ((K + 2 * ts[j].labs.length : Nat) : Int))) o i (if i < j + 1 then markSmp (k + smpsLen (ts.take i)) ts[i] else ts[i]) := by
  intro i hi
  by_cases e : i = j
  · subst e
    rw [if_pos (by omega), ← hK]
    obtain ⟨q0, q1⟩ := hrow
    have s1 := (Array.getElem?_eq_some_iff.1 q1).1
    refine ⟨a1, c1, ⟨?_, ?_⟩, p1.turn (Turn.but h4) fun g' hg' e => by subst e; omega⟩
    · rw [Array.getElem?_setIfInBounds_ne (by omega), q0]
      simp [markSmp, markLabs_length]
    · rw [Array.getElem?_setIfInBounds_self_of_lt (by omega)]; rfl
  · obtain ⟨b1, d1, hrow', r1⟩ := hr i hi e
    have hif : (if i < j + 1 then markSmp (k + smpsLen (ts.take i)) ts[i] else ts[i]) = (if i < j then markSmp (k + smpsLen (ts.take i)) ts[i] else ts[i]) := by
      by_cases h : i < j
      · rw [if_pos h, if_pos (by omega)]
      · rw [if_neg h, if_neg (by omega)]
    rw [hif]
    exact ⟨b1, d1, hrow'.set (by omega) _, (r1.turn h3 fun g' hg' hs => by omega).turn (Turn.but h4) fun g' hg' e => by subst e; omega⟩

set_option maxRecDepth 100000 in
set_option maxHeartbeats 4000000 in
theorem markSampleS_any (g o cap : Nat) (ts : List SmpD) (k B : Nat) (T : Nat → Nat) (cur : Array Value) (ty : TypeId) (w : World) (hk : 0 < k) (hk2 : k + smpsLen ts ≤ 100000000) (hB : B ≤ g) (hg : Blk w g cur ty) (hT : T g = 0) (hf : ∀ i (h : i < ts.length), SmpOwn w B T i g (o + i * 2) ts[i]) :
    Calls Tryd.prog 28 #[.slice (some ⟨g, o, none⟩) ts.length cap, .int .i64 (k : Int)] w fun e w' => e = .returned (.int .i64 ((k + smpsLen ts : Nat) : Int)) ∧ Turn (fun g' => B ≤ g' ∧ T g' ≤ ts.length) w w' ∧ (∃ c, Blk w' g c ty ∧ ∀ i (h : i < (markSmps k ts).length), SmpOwn w' B T i g (o + i * 2) (markSmps k ts)[i]) := by
  have H0 : Hid (∀ i (h : i < ts.length), SmpRow w B T cur o i ts[i]) := fun i h => (hf i h).row hg
  have HG : Hid (Blk w g cur ty) := hg
  have HT : Hid (B ≤ g ∧ T g = 0) := ⟨hB, hT⟩
  have HK2 : Hid (k + smpsLen ts ≤ 100000000) := hk2
  clear hf hg hB hT hk2
  have hlen : ts.length ≤ 100000000 := by have := smps_le_len ts; have := HK2.out; omega
  go_enter Tryd.func28, Tryd.ntmps28
  go_wp2
  go_loopw [1, 5] (fun l i wr => ∃ (j K : Nat) (c : Array Value), j ≤ ts.length ∧ i = .int .i64 j ∧ l = .int .i64 (K : Int) ∧ Hid (K = k + smpsLen (ts.take j)) ∧ Hid (Blk wr g c ty) ∧ Hid (∀ i (h : i < ts.length), SmpRow wr B T c o i (if i < j then markSmp (k + smpsLen (ts.take i)) ts[i] else ts[i])) ∧ Hid (Turn (fun g' => B ≤ g' ∧ T g' ≤ ts.length) w wr)) (fun _ i _ => ts.length - (intOf i).toNat)
  case atStart => exact ⟨0, k, cur, Nat.zero_le _, rfl, rfl, by show _ = _; simp [smpsLen], HG.out, fun i h => by rw [if_neg (by omega)]; exact H0.out i h, Turn.refl _ _⟩
  case round =>
    obtain ⟨j, K, c, hj, rfl, rfl, HK, HBLK, HR, HTU⟩ := hrel
    by_cases hlt : j < ts.length
    · obtain ⟨a1, c1, hrow, p1⟩ := HR.out j hlt
      rw [if_neg (Nat.lt_irrefl _)] at hrow p1
      have HROW : Hid (RowSmp c (o + j * 2) ts[j] a1 c1) := hrow
      have P1 : Hid (LabsTag wr B T (j + 1) a1 ts[j].labs) := p1
      have HLE : Hid (K + smpLen ts[j] ≤ 100000000 ∧ k + smpsLen (ts.take (j + 1)) = K + smpLen ts[j]) := by
        have h1 := smpsLen_take ts j hlt
        have h2 := smpsLen_le ts (j + 1)
        have h3 := HK.out
        have h4 := HK2.out
        exact ⟨by omega, by omega⟩
      have hkb : K + 2 * ts[j].labs.length + 1 ≤ 100000000 := by have := HLE.out.1; unfold smpLen at this; omega
      have hKp : 0 < K := by have := HK.out; omega
      have hcs : o + j * 2 + 1 < c.size := (Array.getElem?_eq_some_iff.1 HROW.out.2).1
      have d0 : wr.cell? ⟨g, o + j * 2, none⟩ = some (.slice a1 ts[j].labs.length c1) := (HBLK.out.cell _).trans HROW.out.1
      clear hrow p1
      go_wp2_with fail
      refine (markLabelS_tag _ a1 c1 ts[j].labs K B (j + 1) T _ (by omega) (by omega) (by omega) P1.out).mono ?_
      rintro e w3 ⟨rfl, ht3, q1⟩
      have HT3 := hid ht3
      have Q1 := hid q1
      have HB3 : Hid (Blk w3 g c ty) := ht3.blk HBLK.out (fun h => by have := HT.out.2; omega)
      obtain ⟨v1, d1⟩ := HB3.out.there (j := o + j * 2 + 1) (by omega)
      have f1 := HB3.out.free (o + j * 2 + 1)
      clear ht3 q1 d0
      have BU4 : Hid (But g w3 (w3.setCell ⟨g, o + j * 2 + 1, none⟩ (.int .i64 ((K + 2 * ts[j].labs.length : Nat) : Int)))) := (But.refl g w3).setCell _ _
      have HB4 : Hid (Blk (w3.setCell ⟨g, o + j * 2 + 1, none⟩ (.int .i64 ((K + 2 * ts[j].labs.length : Nat) : Int))) g (c.setIfInBounds (o + j * 2 + 1) (.int .i64 ((K + 2 * ts[j].labs.length : Nat) : Int))) ty) := HB3.out.set _ _
      have HR4 := hid (markX_step HT.out.2 hlt (fun i h _ => HR.out i h) HROW.out HK.out HT3.out BU4.out Q1.out)
      have HTU4 : Hid (Turn (fun g' => B ≤ g' ∧ T g' ≤ ts.length) w (w3.setCell ⟨g, o + j * 2 + 1, none⟩ (.int .i64 ((K + 2 * ts[j].labs.length : Nat) : Int)))) := by
        refine (HTU.out.trans' (HT3.out.mono fun i _ h => ?_)).trans' ((Turn.but BU4.out).mono fun i _ e => ?_)
        · exact ⟨h.1, by omega⟩
        · subst e; exact ⟨HT.out.1, by rw [HT.out.2]; omega⟩
      have HEND : Hid (((K + 2 * ts[j].labs.length + 1 : Nat) : Int) = ((k + smpsLen (ts.take (j + 1)) : Nat) : Int)) := by
        show _ = _
        have := HLE.out.2
        unfold smpLen at this
        omega
      have hco : ((K + 2 * ts[j].labs.length : Nat) : Int) = (K : Int) + 2 * (ts[j].labs.length : Int) := by omega
      go_wp2
      refine ⟨⟨j + 1, k + smpsLen (ts.take (j + 1)), c.setIfInBounds (o + j * 2 + 1) (.int .i64 ((K + 2 * ts[j].labs.length : Nat) : Int)), by omega, by go_num, congrArg (Value.int .i64) (by have := HEND.out; omega), rfl, ?_, ?_, ?_⟩, by simp [intOf]; omega⟩
      · exact hid (by have := HB4.out; simpa using this)
      · exact hid (by have := HR4.out; simpa using this)
      · exact hid (by have := HTU4.out; simpa using this)
    · have ej : j = ts.length := by omega
      have HE : Hid (((K : Nat) : Int) = ((k + smpsLen ts : Nat) : Int)) := by show _ = _; rw [HK.out, ej, List.take_length]
      go_wp2
      go_ret
      refine ⟨ret_int HE.out, HTU.out, c, HBLK.out, fun i hi => ?_⟩
      have hi' : i < ts.length := by rw [markSmps_length] at hi; exact hi
      have := HR.out i hi'
      rw [if_pos (by omega)] at this
      rw [markSmps_get hi hi']
      exact this.own HBLK.out

set_option maxRecDepth 100000 in
set_option maxHeartbeats 1000000 in
theorem markSampleS_nil (a : Option Addr) (cap : Nat) (k : Nat) (w : World) :
    Calls Tryd.prog 28 #[.slice a 0 cap, .int .i64 (k : Int)] w fun e w' => e = .returned (.int .i64 (k : Int)) ∧ w' = w := by
  go_enter Tryd.func28, Tryd.ntmps28
  go_wp2
  go_loopw [1, 5] (fun l i wr => l = .int .i64 (k : Int) ∧ i = .int .i64 0 ∧ wr = w) (fun _ i _ => 0)
  case atStart => exact ⟨rfl, rfl, rfl⟩
  case round =>
    obtain ⟨rfl, rfl, rfl⟩ := hrel
    go_wp2
    go_ret
    exact ⟨rfl, rfl⟩
/-- Samples of their own, all of whose blocks lay there at w0. -/
theorem markSmps_any (a : Option Addr) (cap : Nat) (ts : List SmpD) (k B : Nat) (w0 w : World) (hk : 0 < k) (hk2 : k + smpsLen ts ≤ 100000000) (h0 : SmpsOwn w0 B a ts) (hb : Below w0.heap.size w0 w) :
    Calls Tryd.prog 28 #[.slice a ts.length cap, .int .i64 (k : Int)] w fun e w' => e = .returned (.int .i64 ((k + smpsLen ts : Nat) : Int)) ∧ Turn (fun g => B ≤ g ∧ g < w0.heap.size) w w' ∧ SmpsOwn w' B a (markSmps k ts) := by
  rcases h0 with rfl | ⟨g, o, cur, t, T, rfl, hB, hg, hT, h⟩
  · refine (markSampleS_nil a cap k w).mono ?_
    rintro e w' ⟨rfl, rfl⟩
    exact ⟨ret_int (by simp [smpsLen]), Turn.refl _ _, Or.inl (by simp [markSmps])⟩
  · have hlt := lt_of_block hg
    have hg' : Blk w g cur t := (hb.block g hlt).trans hg
    have hle := smps_le_len ts
    refine (markSampleS_any g o cap ts k B (fun x => if x < w0.heap.size then T x else 1000000007) cur t w hk hk2 hB hg' (by simp [hlt, hT]) (fun i hi => (h i hi).keep (fun j _ => World.cell?_of_block (hb.block g hlt)) fun x hx _ _ => ⟨hb.block x hx, if_pos hx⟩)).mono ?_
    rintro e w' ⟨rfl, ht, c, hc, hm⟩
    refine ⟨rfl, ht.mono fun x _ hx => ⟨hx.1, ?_⟩, Or.inr ⟨g, o, c, t, _, rfl, hB, hc, by simp [hlt, hT], hm⟩⟩
    by_cases hl : x < w0.heap.size
    · exact hl
    · have := hx.2
      rw [if_neg hl] at this
      omega

set_option maxRecDepth 100000 in
set_option maxHeartbeats 1000000 in
theorem markRequest_any (r : ReqD) (a : Option Addr) (cap : Nat) (k B : Nat) (w0 w : World) (hk : 0 < k) (hk2 : k + smpsLen r.smps ≤ 100000000) (h0 : SmpsOwn w0 B a r.smps) (hb : Below w0.heap.size w0 w) :
    Calls Tryd.prog 12 #[.agg #[.int .i64 r.kind, .string r.tenant, .string r.metric, .int .i64 r.num, .slice a r.smps.length cap], .int .i64 (k : Int)] w fun e w' => e = .returned (.int .i64 ((k + smpsLen r.smps : Nat) : Int)) ∧ Turn (fun g => B ≤ g ∧ g < w0.heap.size) w w' ∧ SmpsOwn w' B a (markSmps k r.smps) := by
  have HM : Hid (∀ W, Below w0.heap.size w0 W → Calls Tryd.prog 28 #[.slice a r.smps.length cap, .int .i64 (k : Int)] W fun e w' => e = .returned (.int .i64 ((k + smpsLen r.smps : Nat) : Int)) ∧ Turn (fun g => B ≤ g ∧ g < w0.heap.size) W w' ∧ SmpsOwn w' B a (markSmps k r.smps)) := fun W hW => markSmps_any a cap r.smps k B w0 W hk hk2 h0 hW
  have HB : Hid (Below w0.heap.size w0 w) := hb
  clear h0 hb
  go_enter Tryd.func12, Tryd.ntmps12
  go_wp2_with fail
  refine (HM.out _ (bto HB.out (bnew _ _))).mono ?_
  rintro e w1 ⟨rfl, ht, ho⟩
  have HT : Hid (Turn (fun g => B ≤ g ∧ g < w0.heap.size) w w1 ∧ SmpsOwn w1 B a (markSmps k r.smps)) := ⟨(Turn.of (bnew _ _)).trans' ht, ho⟩
  clear ht ho
  go_wp2
  go_ret
  exact ⟨rfl, HT.out.1, HT.out.2⟩

set_option maxRecDepth 100000 in
set_option maxHeartbeats 4000000 in
theorem heldSampleS_any (a : Option Addr) (cap : Nat) (ts : List SmpD) (k : Nat) (w : World) (hk : 0 < k) (hk2 : k + smpsLen ts ≤ 100000000) (hf : SmpsIn w a (markSmps k ts)) :
    Calls Tryd.prog 29 #[.slice a ts.length cap, .int .i64 (k : Int)] w fun e w' => e = .returned (.int .i64 ((k + smpsLen ts : Nat) : Int)) ∧ Below w.heap.size w w' := by
  have HF : Hid (SmpsIn w a (markSmps k ts)) := hf
  have HK2 : Hid (k + smpsLen ts ≤ 100000000) := hk2
  have hlen : ts.length ≤ 100000000 := by have := smps_le_len ts; omega
  clear hf hk2
  go_enter Tryd.func29, Tryd.ntmps29
  go_wp2
  go_loopw [1, 5] (fun l i wr => ∃ (j K : Nat), j ≤ ts.length ∧ i = .int .i64 j ∧ l = .int .i64 (K : Int) ∧ Hid (K = k + smpsLen (ts.take j)) ∧ Hid (Below w.heap.size w wr)) (fun _ i _ => ts.length - (intOf i).toNat)
  case atStart => exact ⟨0, k, Nat.zero_le _, rfl, rfl, by show _ = _; simp [smpsLen], Below.refl _ _⟩
  case round =>
    obtain ⟨j, K, hj, rfl, rfl, HK, HB⟩ := hrel
    by_cases hlt : j < ts.length
    · have hlt' : j < (markSmps k ts).length := by rw [markSmps_length]; exact hlt
      obtain ⟨b, o, a1, c1, rfl, hb, z0, z1, p1⟩ := (HF.out.later HB.out).at hlt'
      rw [markSmps_get hlt' hlt, ← HK.out] at z0 z1 p1
      simp only [markSmp, markLabs_length] at z0 z1 p1
      have HLE : Hid (K + smpLen ts[j] ≤ 100000000 ∧ k + smpsLen (ts.take (j + 1)) = K + smpLen ts[j]) := by
        have h1 := smpsLen_take ts j hlt
        have h2 := smpsLen_le ts (j + 1)
        have h3 := HK.out
        have h4 := HK2.out
        exact ⟨by omega, by omega⟩
      have hkb : K + 2 * ts[j].labs.length + 1 ≤ 100000000 := by have := HLE.out.1; unfold smpLen at this; omega
      have hKp : 0 < K := by have := HK.out; omega
      have P1 : Hid (LabsIn wr a1 (markLabs K ts[j].labs.length)) := p1
      have HZ : Hid (∀ W, Below wr.heap.size wr W → W.cell? ⟨b, o + j * 2 + 1, none⟩ = some (.int .i64 ((K + 2 * ts[j].labs.length : Nat) : Int))) := fun W hW => (hW.cell hb).trans z1
      clear z1 p1
      go_wp2_with fail
      refine (heldLabelS_int _ a1 c1 K ts[j].labs.length _ (by omega) (by omega) (by omega) P1.out).mono ?_
      rintro e w3 ⟨rfl, hb3⟩
      have y1 := HZ.out w3 hb3
      have hyn : ¬ (((K + 2 * ts[j].labs.length : Nat) : Int) < 0) := by omega
      have HX3 : Hid (Below w.heap.size w w3) := bto HB.out hb3
      have HEND : Hid (((K + 2 * ts[j].labs.length + 1 : Nat) : Int) = ((k + smpsLen (ts.take (j + 1)) : Nat) : Int)) := by
        show _ = _
        have := HLE.out.2
        unfold smpLen at this
        omega
      clear hb3 z0
      generalize hq : K + 2 * ts[j].labs.length = Q at *
      clear hq
      go_wp2
      exact ⟨⟨j + 1, k + smpsLen (ts.take (j + 1)), by omega, by go_num, congrArg (Value.int .i64) (by have := HEND.out; omega), rfl, HX3.out⟩, by simp [intOf]; omega⟩
    · have ej : j = ts.length := by omega
      have HE : Hid (((K : Nat) : Int) = ((k + smpsLen ts : Nat) : Int)) := by show _ = _; rw [HK.out, ej, List.take_length]
      go_wp2
      go_ret
      exact ⟨ret_int HE.out, HB.out⟩

set_option maxRecDepth 100000 in
set_option maxHeartbeats 1000000 in
theorem heldRequest_any (r : ReqD) (a : Option Addr) (cap : Nat) (k : Nat) (w : World) (hk : 0 < k) (hk2 : k + smpsLen r.smps ≤ 100000000) (hf : SmpsIn w a (markSmps k r.smps)) :
    Calls Tryd.prog 13 #[.agg #[.int .i64 r.kind, .string r.tenant, .string r.metric, .int .i64 r.num, .slice a r.smps.length cap], .int .i64 (k : Int)] w fun e w' => e = .returned (.int .i64 ((k + smpsLen r.smps : Nat) : Int)) ∧ Below w.heap.size w w' := by
  have HM : Hid (∀ W, Below w.heap.size w W → Calls Tryd.prog 29 #[.slice a r.smps.length cap, .int .i64 (k : Int)] W fun e w' => e = .returned (.int .i64 ((k + smpsLen r.smps : Nat) : Int)) ∧ Below W.heap.size W w') := fun W hW => heldSampleS_any a cap r.smps k W hk hk2 (hf.later hW)
  clear hf
  go_enter Tryd.func13, Tryd.ntmps13
  go_wp2_with fail
  refine (HM.out _ (bnew _ _)).mono ?_
  rintro e w1 ⟨rfl, hb⟩
  have HB : Hid (Below w.heap.size w w1) := bto (bnew _ _) hb
  clear hb
  go_wp2
  go_ret
  exact ⟨ret_int (by omega), HB.out⟩
end Go.Proofs.YtoecnlhnfhongaaDoor

