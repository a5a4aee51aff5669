import Derived.Test.YtgnppdghjlnlhaaGreatDoorProg
import Derived.Test.YtgnppdghjlnlhaaGreatDoorJ20SNum
import Derived.Test.YtgnppdghjlnlhaaGreatDoorJ24PrE
import Derived.Test.YtgnppdghjlnlhaaGreatDoorJ01Btw
import Derived.Deep.OwnRows
namespace Go.Proofs.YtgnppdghjlnlhaaGreatDoor
open Go.RowKit
set_option maxRecDepth 100000 in
set_option maxHeartbeats 1000000 in
theorem eqTenant_same (f : TenD) (a1 a2 b1 b2 : Option Addr) (c1 c2 d1 d2 : Nat) (w : World) (p1 : PairsIn w a1 f.mets) (p2 : PairsIn w a2 f.sers) (q1 : PairsIn w b1 f.mets) (q2 : PairsIn w b2 f.sers) (l1 : f.mets.length ≤ maxLen) (l2 : f.sers.length ≤ maxLen) :
    Calls Tryz.prog 106 #[.agg #[.string f.name, .int .i64 f.limit, .slice a1 f.mets.length c1, .slice a2 f.sers.length c2], .agg #[.string f.name, .int .i64 f.limit, .slice b1 f.mets.length d1, .slice b2 f.sers.length d2]] w fun e w' => e = .returned (.bool true) ∧ Below w.heap.size w w' := by
  have HM : Hid (∀ W, Below w.heap.size w W → Calls Tryz.prog 128 #[.slice a1 f.mets.length c1, .slice b1 f.mets.length d1] W fun e w' => e = .returned (.bool true) ∧ Below W.heap.size W w') :=
    fun W hW => eqMetricLimitS_same a1 b1 c1 d1 f.mets W (p1.later hW) (q1.later hW) l1
  have HS : Hid (∀ W, Below w.heap.size w W → Calls Tryz.prog 129 #[.slice a2 f.sers.length c2, .slice b2 f.sers.length d2] W fun e w' => e = .returned (.bool true) ∧ Below W.heap.size W w') :=
    fun W hW => eqSeriesS_same a2 b2 c2 d2 f.sers W (p2.later hW) (q2.later hW) l2
  clear p1 p2 q1 q2
  go_enter Tryz.func106, Tryz.ntmps106
  go_wp2_with fail
  refine (HM.out _ (bto (bnew _ _) (bnew _ _))).mono ?_
  rintro e w1 ⟨rfl, hb1⟩
  have B1 : Hid (Below w.heap.size w w1) := bto (bto (bnew _ _) (bnew _ _)) hb1
  have t0 : w1.cell? ⟨w.heap.size, 3, none⟩ = some (.slice a2 f.sers.length c2) := (((Blk.new w _ _).alloc _).later hb1).cell 3
  have t1 : w1.cell? ⟨w.heap.size + 1, 3, none⟩ = some (.slice b2 f.sers.length d2) := by
    have := ((Blk.new (w.alloc (.cells #[.string f.name, .int .i64 f.limit, .slice a1 f.mets.length c1, .slice a2 f.sers.length c2] 94)) #[.string f.name, .int .i64 f.limit, .slice b1 f.mets.length d1, .slice b2 f.sers.length d2] 94).later hb1).cell 3
    simpa using this
  clear hb1
  go_wp2_with fail
  refine (HS.out _ B1.out).mono ?_
  rintro e w2 ⟨rfl, hb2⟩
  have B2 : Hid (Below w.heap.size w w2) := bto B1.out hb2
  clear hb2
  go_wp2
  go_ret
  exact ⟨rfl, B2.out⟩
def LenT (fs : List TenD) : Prop := ∀ i (h : i < fs.length), fs[i].mets.length ≤ maxLen ∧ fs[i].sers.length ≤ maxLen
set_option maxRecDepth 100000 in
set_option maxHeartbeats 2000000 in
theorem eqTenantS_same (a a' : Option Addr) (cap cap' : Nat) (fs : List TenD) (w : World) (hf : TensIn w a fs) (hf' : TensIn w a' fs) (hlen : fs.length ≤ maxLen) (hl : LenT fs) :
    Calls Tryz.prog 72 #[.slice a fs.length cap, .slice a' fs.length cap'] w fun e w' => e = .returned (.bool true) ∧ Below w.heap.size w w' := by
  unfold maxLen at hlen
  have HF : Hid (TensIn w a fs) := hf
  have HF' : Hid (TensIn w a' fs) := hf'
  have HL : Hid (LenT fs) := hl
  clear hf hf' hl
  go_enter Tryz.func72, Tryz.ntmps72
  go_wp2
  go_loopw [5] (fun i wr => ∃ k : Nat, k ≤ fs.length ∧ i = .int .i64 k ∧ Below w.heap.size w wr) (fun i _ => fs.length - (intOf i).toNat)
  case atStart => exact ⟨0, Nat.zero_le _, rfl, Below.refl _ _⟩
  case round =>
    obtain ⟨k, hk, rfl, hbel⟩ := hrel
    by_cases hlt : k < fs.length
    · obtain ⟨b, o, a1, q1, a2, q2, rfl, hb, c0, c1, c2, c3, p1, p2⟩ := (HF.out.later hbel).at hlt
      obtain ⟨b', o', b1, r1, b2, r2, rfl, hb', e0, e1, e2, e3, s1, s2⟩ := (HF'.out.later hbel).at hlt
      have d0 := Later.cells c0
      have d1 := Later.cells c1
      have d2 := Later.cells c2
      have d3 := Later.cells c3
      have g0 := Later.cells e0
      have g1 := Later.cells e1
      have g2 := Later.cells e2
      have g3 := Later.cells e3
      have HC : Hid (∀ x : Later wr, Calls Tryz.prog 106 #[.agg #[.string fs[k].name, .int .i64 fs[k].limit, .slice a1 fs[k].mets.length q1, .slice a2 fs[k].sers.length q2], .agg #[.string fs[k].name, .int .i64 fs[k].limit, .slice b1 fs[k].mets.length r1, .slice b2 fs[k].sers.length r2]] x.w' fun e w' => e = .returned (.bool true) ∧ Below x.w'.heap.size x.w' w') :=
        fun x => eqTenant_same fs[k] _ _ _ _ _ _ _ _ x.w' (p1.later x.h) (p2.later x.h) (s1.later x.h) (s2.later x.h) (HL.out k hlt).1 (HL.out k hlt).2
      clear c0 c1 c2 c3 e0 e1 e2 e3 p1 p2 s1 s2
      have hne := Later.there wr
      go_wp2_with fail
      refine wp_region_later (by kernel_rfl) (by kernel_rfl) ?_
      repeat (go_big_quiet_step (exact calls_later (HC.out _)))
      refine wpQuiet_nil ?_
      rintro _ ⟨x, rfl⟩
      go_wp2
      exact ⟨⟨k + 1, by omega, by go_num, hbel.trans (x.h.mono hbel.size)⟩, by simp [intOf]; omega⟩
    · go_wp2
      go_ret
      exact ⟨rfl, hbel⟩
set_option maxRecDepth 100000 in
set_option maxHeartbeats 1000000 in
theorem eqState_same (now : Int) (a a' : Option Addr) (cap cap' : Nat) (fs : List TenD) (w : World) (hf : TensIn w a fs) (hf' : TensIn w a' fs) (hlen : fs.length ≤ maxLen) (hl : LenT fs) :
    Calls Tryz.prog 38 #[.agg #[.int .i64 now, .slice a fs.length cap], .agg #[.int .i64 now, .slice a' fs.length cap']] w fun e w' => e = .returned (.bool true) ∧ Below w.heap.size w w' := by
  have HC : Hid (∀ W, Below w.heap.size w W → Calls Tryz.prog 72 #[.slice a fs.length cap, .slice a' fs.length cap'] W fun e w' => e = .returned (.bool true) ∧ Below W.heap.size W w') :=
    fun W hW => eqTenantS_same a a' cap cap' fs W (hf.later hW) (hf'.later hW) hlen hl
  clear hf hf' hl
  go_enter Tryz.func38, Tryz.ntmps38
  go_wp2_with fail
  refine (HC.out _ (bto (bnew _ _) (bnew _ _))).mono ?_
  rintro e w1 ⟨rfl, hb1⟩
  have B1 : Hid (Below w.heap.size w w1) := bto (bto (bnew _ _) (bnew _ _)) hb1
  clear hb1
  go_wp2
  go_ret
  exact ⟨rfl, B1.out⟩
end Go.Proofs.YtgnppdghjlnlhaaGreatDoor
namespace Go.Proofs.YtgnppdghjlnlhaaGreatDoor
open Go.RowKit
set_option maxHeartbeats 400000 in
theorem szFile_any (f : FileD) (left : Int) (w : World) (h0 : 0 ≤ left) (h1 : left ≤ 1048576) (hn : f.name.size ≤ maxLen) (hd : f.data.size ≤ maxLen) :
    Calls Tryz.prog 77 #[.agg #[.string f.name, .string f.data, .int .i64 f.synced], .int .i64 left] w fun e w' => e = .returned (.int .i64 (szF left f)) ∧ Below w.heap.size w w' := by
  unfold maxLen at hn hd
  obtain ⟨nm, da, sy⟩ := f
  simp only at hn hd ⊢
  by_cases c1 : left - nm.size < 0
  · have e : szF left ⟨nm, da, sy⟩ = -1 := by unfold szF; rw [if_neg]; simp only; omega
    rw [e]
    go_enter Tryz.func77, Tryz.ntmps77
    go_wp2
    go_ret
    exact ⟨rfl, (Below.refl _ _).alloc (Nat.le_refl _) _⟩
  · by_cases c2 : left - nm.size - da.size < 0
    · have e : szF left ⟨nm, da, sy⟩ = -1 := by unfold szF; rw [if_neg]; simp only; omega
      rw [e]
      go_enter Tryz.func77, Tryz.ntmps77
      go_wp2
      go_ret
      exact ⟨rfl, (Below.refl _ _).alloc (Nat.le_refl _) _⟩
    · have e : szF left ⟨nm, da, sy⟩ = left - nm.size - da.size := by unfold szF; rw [if_pos]; simp only; omega
      rw [e]
      go_enter Tryz.func77, Tryz.ntmps77
      go_wp2
      go_ret
      exact ⟨rfl, (Below.refl _ _).alloc (Nat.le_refl _) _⟩
set_option maxHeartbeats 1000000 in
theorem szFileS_any (a : Option Addr) (cap : Nat) (fs : List FileD) (left : Int) (w : World) (h0 : 0 ≤ left) (h1 : left ≤ 1048576) (hf : FilesIn w a fs) (hs : Short fs) (hlen : fs.length ≤ maxLen) :
    Calls Tryz.prog 43 #[.slice a fs.length cap, .int .i64 left] w fun e w' => e = .returned (.int .i64 (szFs left fs)) ∧ Below w.heap.size w w' := by
  unfold maxLen at hlen
  by_cases c1 : left - fs.length < 0
  · have e : szFs left fs = -1 := by unfold szFs; rw [if_neg]; omega
    rw [e]
    clear hf hs
    go_enter Tryz.func43, Tryz.ntmps43
    go_wp2
    go_ret
    exact ⟨rfl, Below.refl _ _⟩
  · have hne : ¬ (left - fs.length < 0) := c1
    have HF : Hid (FilesIn w a fs) := hf
    have HS : Hid (Short fs) := hs
    clear hf hs
    go_enter Tryz.func43, Tryz.ntmps43
    go_wp2
    go_loopw [1, 5] (fun l i wr => ∃ k : Nat, k ≤ fs.length ∧ i = .int .i64 k ∧ (bulk (fs.take k) : Int) ≤ left - fs.length ∧ l = .int .i64 (left - fs.length - bulk (fs.take k)) ∧ Below w.heap.size w wr) (fun _ i _ => fs.length - (intOf i).toNat)
    case atStart => exact ⟨0, Nat.zero_le _, rfl, by simp [bulk]; omega, by simp [bulk], Below.refl _ _⟩
    case round =>
      obtain ⟨k, hk, rfl, hle, rfl, hbel⟩ := hrel
      by_cases hlt : k < fs.length
      · obtain ⟨b, o, rfl, hb, c0, c1, c2⟩ := (HF.out.later hbel).at hlt
        have hss := HS.out k hlt
        have hts := bulk_take_succ fs k hlt
        have htl := bulk_take_le fs (k + 1)
        by_cases c3 : ((fs[k].name.size + fs[k].data.size : Nat) : Int) ≤ left - fs.length - bulk (fs.take k)
        · have e : szF (left - fs.length - bulk (fs.take k)) fs[k] = left - fs.length - bulk (fs.take (k + 1)) := by
            unfold szF; rw [if_pos (by omega), hts]; omega
          have E : Hid (szF (left - fs.length - bulk (fs.take k)) fs[k] = left - fs.length - bulk (fs.take (k + 1))) := e
          have hle2 : (bulk (fs.take (k + 1)) : Int) ≤ left - fs.length := by omega
          clear e hts
          go_wp2_with fail
          refine (szFile_any fs[k] _ _ (by omega) (by omega) hss.1 hss.2).mono ?_
          rintro e w' ⟨rfl, hb2⟩
          rw [E.out]
          go_wp2
          exact ⟨⟨k + 1, by omega, by go_num, hle2, rfl, hbel.trans (hb2.mono hbel.size)⟩, by simp [intOf]; omega⟩
        · have e : szF (left - fs.length - bulk (fs.take k)) fs[k] = -1 := by
            unfold szF; rw [if_neg (by omega)]
          have E : Hid (szF (left - fs.length - bulk (fs.take k)) fs[k] = -1) := e
          have E2 : Hid (szFs left fs = -1) := by show szFs left fs = -1; unfold szFs; rw [if_neg (by omega)]
          clear e hts
          go_wp2_with fail
          refine (szFile_any fs[k] _ _ (by omega) (by omega) hss.1 hss.2).mono ?_
          rintro e w' ⟨rfl, hb2⟩
          rw [E.out]
          go_wp2
          go_ret
          exact ⟨ret_int E2.out.symm, hbel.trans (hb2.mono hbel.size)⟩
      · go_wp2
        go_ret
        have e : fs.take k = fs := List.take_of_length_le (by omega)
        rw [e] at hle ⊢
        exact ⟨ret_int (by unfold szFs; rw [if_pos (by omega)]), hbel⟩
abbrev diskV (a : Option Addr) (n cap : Nat) (c k cr fl : Int) (dn : Bool) : Value := .agg #[.slice a n cap, .int .i64 c, .int .i64 k, .int .i64 cr, .int .i64 fl, .bool dn]
set_option maxHeartbeats 400000 in
theorem szDisk_any (a : Option Addr) (cap : Nat) (fs : List FileD) (c k cr fl : Int) (dn : Bool) (left : Int) (w : World) (h0 : 0 ≤ left) (h1 : left ≤ 1048576) (hf : FilesIn w a fs) (hs : Short fs) (hlen : fs.length ≤ maxLen) :
    Calls Tryz.prog 12 #[.agg #[.slice a fs.length cap, .int .i64 c, .int .i64 k, .int .i64 cr, .int .i64 fl, .bool dn], .int .i64 left] w fun e w' => e = .returned (.int .i64 (szFs left fs)) ∧ Below w.heap.size w w' := by
  have HF : Hid (FilesIn w a fs) := hf
  clear hf
  by_cases c1 : szFs left fs < 0
  · have E : Hid (szFs left fs = -1) := by show szFs left fs = -1; unfold szFs at c1 ⊢; split at c1 <;> omega
    go_enter Tryz.func12, Tryz.ntmps12
    go_wp2_with fail
    refine (szFileS_any a cap fs left _ h0 h1 (HF.out.later ((Below.refl _ _).alloc (Nat.le_refl _) _)) hs hlen).mono ?_
    rintro e w' ⟨rfl, hb2⟩
    go_wp2
    go_ret
    exact ⟨ret_int E.out.symm, ((Below.refl _ _).alloc (Nat.le_refl _) _).trans (hb2.mono (by simp))⟩
  · go_enter Tryz.func12, Tryz.ntmps12
    go_wp2_with fail
    refine (szFileS_any a cap fs left _ h0 h1 (HF.out.later ((Below.refl _ _).alloc (Nat.le_refl _) _)) hs hlen).mono ?_
    rintro e w' ⟨rfl, hb2⟩
    go_wp2
    go_ret
    exact ⟨rfl, ((Below.refl _ _).alloc (Nat.le_refl _) _).trans (hb2.mono (by simp))⟩
end Go.Proofs.YtgnppdghjlnlhaaGreatDoor
namespace Go.Proofs.YtgnppdghjlnlhaaGreatDoor
open Go.RowKit
set_option maxHeartbeats 400000 in
theorem toFile_any (nm da : ByteArray) (sy : Int) (w : World) :
    Calls Tryz.prog 82 #[.agg #[.string nm, .string da, .int .i64 sy]] w fun e w' => e = .returned (.agg #[.string nm, .string da, .int .i64 sy]) ∧ Below w.heap.size w w' := by
  go_enter Tryz.func82, Tryz.ntmps82
  go_wp2
  exact bodyPost_ret (v := .agg #[.string nm, .string da, .int .i64 sy]) (by simp [results, Tryz.results82, go_sem]) rfl ⟨rfl, (((Below.refl _ _).alloc (Nat.le_refl _) _).alloc (by simp) _).alloc (by simp; omega) _⟩
theorem info_file : (Tryz.prog.info? 104).map (fun i => (i.zero, i.size, i.bytes)) = some (some (.agg #[.string ByteArray.empty, .string ByteArray.empty, .int .i64 0]), 3, 40) := by kernel_rfl
theorem make_files (n : Nat) (hn : n ≤ 1048576) (w : World) :
    (Instr.makeSlice 35 (.int .i64 (n : Int)) (.int .i64 (n : Int))).run Tryz.prog w = .ok (.slice (some ⟨w.heap.size, 0, none⟩) n n) (w.alloc (.cells (madeCells #[.string ByteArray.empty, .string ByteArray.empty, .int .i64 0] (n * 3)) 104)) := by
  obtain ⟨i, hi, hzz⟩ := Option.map_eq_some_iff.1 info_file
  simp only [Prod.mk.injEq] at hzz
  obtain ⟨hz, hs, hb⟩ := hzz
  have hr := run_make (P := Tryz.prog) w 35 104 i _ Tryz.underlying35 hi hz .i64 .i64 n n (by omega) (Int.le_refl _) (by rw [hb]; omega) (by omega)
  simp only [Int.toNat_natCast, hs] at hr
  exact hr
def Fill (w : World) (g n : Nat) (fs : List FileD) (k : Nat) : Prop := ∃ cur : Array Value, w.heap[g]? = some (.cells cur 104 (0, 0)) ∧ cur.size = n * 3 ∧
  ∀ i (h : i < fs.length), i < k → cur[i * 3]? = some (.string fs[i].name) ∧ cur[i * 3 + 1]? = some (.string fs[i].data) ∧ cur[i * 3 + 2]? = some (.int .i64 fs[i].synced)
theorem Fill.later {w w' : World} {g n k : Nat} {fs : List FileD} {B : Nat} (h : Fill w g n fs k) (hb : Below B w w') (hg : g < B) : Fill w' g n fs k := by
  obtain ⟨cur, h1, h2⟩ := h
  exact ⟨cur, by rw [hb.block g hg]; exact h1, h2⟩
theorem Fill.cells {w : World} {g n k : Nat} {fs : List FileD} (h : Fill w g n fs k) {j : Nat} (hj : j < n * 3) : (∃ v, w.cell? ⟨g, j, none⟩ = some v) ∧ w.frozen? ⟨g, j, none⟩ = false := by
  obtain ⟨cur, h1, h2, _⟩ := h
  refine ⟨⟨cur[j], ?_⟩, frozen_of_row w g j cur _ h1⟩
  rw [cell_of_row w g j cur _ _ h1]
  exact Array.getElem?_eq_getElem (by omega)
theorem Fill.step {w : World} {g n k : Nat} {fs : List FileD} (h : Fill w g n fs k) (hk : k < fs.length) (hn : fs.length ≤ n) :
    Fill (((w.setCell ⟨g, k * 3, none⟩ (.string fs[k].name)).setCell ⟨g, k * 3 + 1, none⟩ (.string fs[k].data)).setCell ⟨g, k * 3 + 2, none⟩ (.int .i64 fs[k].synced)) g n fs (k + 1) := by
  obtain ⟨cur, h1, h2, h3⟩ := h
  refine ⟨_, heap_setCell_same _ _ _ _ _ _ (heap_setCell_same _ _ _ _ _ _ (heap_setCell_same _ _ _ _ _ _ h1)), by simp [h2], fun i hi hlt => ?_⟩
  by_cases e : i = k
  · subst e
    refine ⟨?_, ?_, ?_⟩ <;> simp [Array.getElem?_setIfInBounds] <;> omega
  · obtain ⟨a1, a2, a3⟩ := h3 i hi (by omega)
    refine ⟨?_, ?_, ?_⟩
    · rw [Array.getElem?_setIfInBounds_ne (by omega), Array.getElem?_setIfInBounds_ne (by omega), Array.getElem?_setIfInBounds_ne (by omega)]; exact a1
    · rw [Array.getElem?_setIfInBounds_ne (by omega), Array.getElem?_setIfInBounds_ne (by omega), Array.getElem?_setIfInBounds_ne (by omega)]; exact a2
    · rw [Array.getElem?_setIfInBounds_ne (by omega), Array.getElem?_setIfInBounds_ne (by omega), Array.getElem?_setIfInBounds_ne (by omega)]; exact a3
theorem Fill.done {w : World} {g : Nat} {fs : List FileD} (h : Fill w g fs.length fs fs.length) : FilesIn w (some ⟨g, 0, none⟩) fs := by
  obtain ⟨cur, h1, h2, h3⟩ := h
  have hg : g < w.heap.size := by
    rcases Nat.lt_or_ge g w.heap.size with h | h
    · exact h
    · rw [Array.getElem?_eq_none h] at h1; exact absurd h1 (by simp)
  refine Or.inr ⟨g, 0, rfl, hg, fun i hi => ?_⟩
  obtain ⟨a1, a2, a3⟩ := h3 i hi hi
  simp only [cell_of_row w g _ cur _ _ h1, Nat.zero_add]
  exact ⟨a1, a2, a3⟩
set_option maxHeartbeats 1000000 in
theorem toFileS_any (a : Option Addr) (cap : Nat) (fs : List FileD) (w : World) (hf : FilesIn w a fs) (hlen : fs.length ≤ 1048576) :
    Calls Tryz.prog 54 #[.slice a fs.length cap] w fun e w' => e = .returned (.slice (some ⟨w.heap.size, 0, none⟩) fs.length fs.length) ∧ (∃ cur t, w'.heap[w.heap.size]? = some (.cells cur t (0, 0))) ∧ FilesIn w' (some ⟨w.heap.size, 0, none⟩) fs ∧ Below w.heap.size w w' := by
  have HF : Hid (FilesIn w a fs) := hf
  clear hf
  have hmk := make_files fs.length hlen
  go_enter Tryz.func54, Tryz.ntmps54
  go_wp2
  go_loopw [4] (fun i wr => ∃ k : Nat, k ≤ fs.length ∧ i = .int .i64 k ∧ Fill wr w.heap.size fs.length fs k ∧ Below w.heap.size w wr ∧ w.heap.size < wr.heap.size) (fun i _ => fs.length - (intOf i).toNat)
  case atStart => exact ⟨0, Nat.zero_le _, rfl, ⟨_, heap_alloc_new _ _, size_madeCells _ _, fun i _ h => absurd h (by omega)⟩, (Below.refl _ _).alloc (Nat.le_refl _) _, by simp⟩
  case round =>
    obtain ⟨k, hk, rfl, hfill, hbel, hsz⟩ := hrel
    have HFill : Hid (Fill wr w.heap.size fs.length fs k) := hfill
    clear hfill hmk
    by_cases hlt : k < fs.length
    · obtain ⟨b, o, rfl, hb, c0, c1, c2⟩ := (HF.out.later hbel).at hlt
      go_wp2_with fail
      refine (toFile_any _ _ _ _).mono ?_
      rintro e w' ⟨rfl, hb2⟩
      have hF2 := HFill.out.later hb2 hsz
      obtain ⟨⟨v0, d0⟩, f0⟩ := hF2.cells (j := k * 3) (by omega)
      obtain ⟨⟨v1, d1⟩, f1⟩ := hF2.cells (j := k * 3 + 1) (by omega)
      obtain ⟨⟨v2, d2⟩, f2⟩ := hF2.cells (j := k * 3 + 2) (by omega)
      have HF2 : Hid (Fill w' w.heap.size fs.length fs k) := hF2
      clear hF2
      go_wp2
      exact ⟨⟨k + 1, by omega, by go_num, HF2.out.step hlt (Nat.le_refl _), (((hbel.trans (hb2.mono hbel.size)).setCell (Nat.le_refl _) _).setCell (Nat.le_refl _) _).setCell (Nat.le_refl _) _, by have := hb2.size; simp; omega⟩, by simp [intOf]; omega⟩
    · go_wp2
      go_ret
      have e : k = fs.length := by omega
      exact ⟨rfl, by obtain ⟨cur, h, _⟩ := HFill.out; exact ⟨cur, _, h⟩, by have := HFill.out; rw [e] at this; exact this.done, hbel⟩
set_option maxHeartbeats 1000000 in
theorem toDisk_any (a : Option Addr) (cap : Nat) (fs : List FileD) (c k cr fl : Int) (dn : Bool) (w : World) (hf : FilesIn w a fs) (hlen : fs.length ≤ 1048576) :
    Calls Tryz.prog 22 #[.agg #[.slice a fs.length cap, .int .i64 c, .int .i64 k, .int .i64 cr, .int .i64 fl, .bool dn]] w fun e w' =>
      ∃ g, e = .returned (.agg #[.slice (some ⟨g, 0, none⟩) fs.length fs.length, .int .i64 c, .int .i64 k, .int .i64 cr, .int .i64 fl, .bool dn]) ∧ w.heap.size ≤ g ∧ (∃ cur t, w'.heap[g]? = some (.cells cur t (0, 0))) ∧ FilesIn w' (some ⟨g, 0, none⟩) fs ∧ Below w.heap.size w w' := by
  have HF : Hid (FilesIn w a fs) := hf
  clear hf
  go_enter Tryz.func22, Tryz.ntmps22
  go_wp2_with fail
  refine (toFileS_any a cap fs _ (HF.out.later ((((Below.refl _ _).alloc (Nat.le_refl _) _).alloc (by simp) _).alloc (by simp; omega) _)) hlen).mono ?_
  rintro e w' ⟨rfl, hx1, hf1, hb1⟩
  have HX1 : Hid (∃ cur t, w'.heap[w.heap.size + 1 + 1 + 1]? = some (.cells cur t (0, 0))) := by show ∃ _, _; simpa using hx1
  clear hx1
  obtain ⟨hc, hz⟩ := bcell hb1
  have hf2 : FilesIn w' (some ⟨w.heap.size + 1 + 1 + 1, 0, none⟩) fs := by simpa using hf1
  have HF1 : Hid (FilesIn w' (some ⟨w.heap.size + 1 + 1 + 1, 0, none⟩) fs) := hf2
  clear hf2
  clear hf1
  have hb0 : Below w.heap.size w w' := ((((Below.refl _ _).alloc (Nat.le_refl _) _).alloc (by simp) _).alloc (by simp; omega) _).trans (hb1.mono (by simp; omega))
  have HB : Hid (Below w.heap.size w w') := hb0
  clear hb0 hb1
  go_wp2
  refine bodyPost_ret (v := .agg #[.slice (some ⟨w.heap.size + 1 + 1 + 1, 0, none⟩) fs.length fs.length, .int .i64 c, .int .i64 k, .int .i64 cr, .int .i64 fl, .bool dn]) (by simp [results, Tryz.results22, go_sem, hc]) rfl ⟨w.heap.size + 1 + 1 + 1, rfl, by omega, ?_, ?_, ?_⟩
  · obtain ⟨cu, tt, hx⟩ := HX1.out
    refine ⟨cu, tt, ?_⟩
    iterate 12 (refine (Below.heap_setCell _ _ _ _ (by first | omega | (simp; done) | (simp; omega))).trans ?_)
    exact hx
  · have h := HF1.out
    iterate 12 (refine FilesIn.setCell ?_ (by simp) _)
    exact h
  · have h := HB.out
    iterate 12 (refine Below.setCell ?_ (by first | (simp; done) | (simp; omega)) _)
    exact h
end Go.Proofs.YtgnppdghjlnlhaaGreatDoor
namespace Go.Proofs.YtgnppdghjlnlhaaGreatDoor
open Go.RowKit
set_option maxHeartbeats 400000 in
theorem eqFile_same (nm da : ByteArray) (sy : Int) (w : World) :
    Calls Tryz.prog 105 #[.agg #[.string nm, .string da, .int .i64 sy], .agg #[.string nm, .string da, .int .i64 sy]] w fun e w' => e = .returned (.bool true) ∧ Below w.heap.size w w' := by
  go_enter Tryz.func105, Tryz.ntmps105
  go_wp2
  go_ret
  exact ⟨rfl, ((Below.refl _ _).alloc (Nat.le_refl _) _).alloc (by simp) _⟩
set_option maxHeartbeats 1000000 in
theorem eqFileS_same (a a' : Option Addr) (cap cap' : Nat) (fs : List FileD) (w : World) (hf : FilesIn w a fs) (hf' : FilesIn w a' fs) (hlen : fs.length ≤ maxLen) :
    Calls Tryz.prog 71 #[.slice a fs.length cap, .slice a' fs.length cap'] w fun e w' => e = .returned (.bool true) ∧ Below w.heap.size w w' := by
  unfold maxLen at hlen
  have HF : Hid (FilesIn w a fs) := hf
  have HF' : Hid (FilesIn w a' fs) := hf'
  clear hf hf'
  go_enter Tryz.func71, Tryz.ntmps71
  go_wp2
  go_loopw [5] (fun i wr => ∃ k : Nat, k ≤ fs.length ∧ i = .int .i64 k ∧ Below w.heap.size w wr) (fun i _ => fs.length - (intOf i).toNat)
  case atStart => exact ⟨0, Nat.zero_le _, rfl, Below.refl _ _⟩
  case round =>
    obtain ⟨k, hk, rfl, hbel⟩ := hrel
    by_cases hlt : k < fs.length
    · obtain ⟨b, o, rfl, hb, c0, c1, c2⟩ := (HF.out.later hbel).at hlt
      obtain ⟨b', o', rfl, hb', c0', c1', c2'⟩ := (HF'.out.later hbel).at hlt
      have d0 := Later.cells c0
      have d1 := Later.cells c1
      have d2 := Later.cells c2
      have d0' := Later.cells c0'
      have d1' := Later.cells c1'
      have d2' := Later.cells c2'
      clear c0 c1 c2 c0' c1' c2'
      have hne := Later.there wr
      go_wp2_with fail
      refine wp_region_later (by kernel_rfl) (by kernel_rfl) ?_
      repeat (go_big_quiet_step (refine calls_later (eqFile_same _ _ _ _)))
      refine wpQuiet_nil ?_
      rintro _ ⟨x, rfl⟩
      go_wp2
      exact ⟨⟨k + 1, by omega, by go_num, hbel.trans (x.h.mono hbel.size)⟩, by simp [intOf]; omega⟩
    · go_wp2
      go_ret
      exact ⟨rfl, hbel⟩
set_option maxHeartbeats 1000000 in
theorem eqDisk_same (a a' : Option Addr) (cap cap' : Nat) (fs : List FileD) (c k cr fl : Int) (dn : Bool) (w : World) (hf : FilesIn w a fs) (hf' : FilesIn w a' fs) (hlen : fs.length ≤ maxLen) :
    Calls Tryz.prog 36 #[.agg #[.slice a fs.length cap, .int .i64 c, .int .i64 k, .int .i64 cr, .int .i64 fl, .bool dn], .agg #[.slice a' fs.length cap', .int .i64 c, .int .i64 k, .int .i64 cr, .int .i64 fl, .bool dn]] w
      fun e w' => e = .returned (.bool true) ∧ Below w.heap.size w w' := by
  have HF : Hid (FilesIn w a fs) := hf
  have HF' : Hid (FilesIn w a' fs) := hf'
  clear hf hf'
  go_enter Tryz.func36, Tryz.ntmps36
  go_wp2_with fail
  have hb0 := fun o1 o2 => ((Below.refl w.heap.size w).alloc (Nat.le_refl _) o1).alloc (by simp) o2
  refine (eqFileS_same a a' cap cap' fs _ (HF.out.later (hb0 _ _)) (HF'.out.later (hb0 _ _)) hlen).mono ?_
  rintro e w' ⟨rfl, hb1⟩
  obtain ⟨hc, _⟩ := bcell hb1
  have HB : Hid (Below w.heap.size w w') := (hb0 _ _).trans (hb1.mono (by simp; omega))
  clear hb0 hb1
  go_wp2
  go_ret
  exact ⟨rfl, HB.out⟩
end Go.Proofs.YtgnppdghjlnlhaaGreatDoor
namespace Go.Proofs.YtgnppdghjlnlhaaGreatDoor
open Go.RowKit
set_option maxRecDepth 100000 in
set_option maxHeartbeats 1000000 in
theorem eqLog_same (lf ll ls : Int) (w : World) :
    Calls Tryz.prog 37 #[.agg #[.int .i64 lf, .int .i64 ll, .int .i64 ls], .agg #[.int .i64 lf, .int .i64 ll, .int .i64 ls]] w fun e w' => e = .returned (.bool true) ∧ Below w.heap.size w w' := by
  go_enter Tryz.func37, Tryz.ntmps37
  go_wp2
  go_ret
  exact ⟨rfl, bto (bnew _ _) (bnew _ _)⟩
end Go.Proofs.YtgnppdghjlnlhaaGreatDoor
namespace Go.Proofs.YtgnppdghjlnlhaaGreatDoor
open Go.RowKit
set_option maxRecDepth 100000 in
set_option maxHeartbeats 1000000 in
theorem toLog_any (lf ll ls : Int) (w : World) :
    Calls Tryz.prog 23 #[.agg #[.int .i64 lf, .int .i64 ll, .int .i64 ls]] w fun e w' => e = .returned (.agg #[.int .i64 lf, .int .i64 ll, .int .i64 ls]) ∧ Below w.heap.size w w' := by
  go_enter Tryz.func23, Tryz.ntmps23
  go_wp2
  refine bodyPost_ret (v := .agg #[.int .i64 lf, .int .i64 ll, .int .i64 ls]) (by simp [results, Tryz.results23, go_sem]) rfl ⟨rfl, ?_⟩
  first
    | exact bto (bto (bnew _ _) (bnew _ _)) (bnew _ _)
    | (repeat (first | with_reducible refine Below.setCell ?_ (by first | (simp; done) | (simp; omega)) _)
       exact bto (bto (bnew _ _) (bnew _ _)) (bnew _ _))
end Go.Proofs.YtgnppdghjlnlhaaGreatDoor
