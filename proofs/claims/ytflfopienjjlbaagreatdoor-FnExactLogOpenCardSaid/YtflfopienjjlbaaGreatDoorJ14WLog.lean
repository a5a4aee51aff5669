import Derived.Test.YtflfopienjjlbaaGreatDoorProg
import Derived.Test.YtflfopienjjlbaaGreatDoorJ10Dv
import Derived.Test.YtflfopienjjlbaaGreatDoorJ13Step2
import Derived.Test.YtflfopienjjlbaaGreatDoorJ06ScanL
import Derived.Test.YtflfopienjjlbaaGreatDoorJ01SegOfL
import Derived.Test.YtflfopienjjlbaaGreatDoorJ09PropD
import Derived.Test.YtflfopienjjlbaaGreatDoorJ03Nm
import Derived.Test.YtflfopienjjlbaaGreatDoorJ11Ren
namespace Go.Proofs.YtflfopienjjlbaaGreatDoor
open Go.RowKit

theorem l1FileName_is {s : ByteArray} {b : Bool} (h : nameB s = b) (w : World) (hs : s.size ≤ maxLen) : Calls Tryz.prog 57 #[.string s] w fun e w' => e = .returned (.bool b) ∧ w' = w := h ▸ l1FileName_any s w hs

set_option maxHeartbeats 4000000 in
theorem specValid_any (a : Option Addr) (cap : Nat) (fs : List FileD) (c k0 cr fl : Int) (dn : Bool) (w : World) (hf : FilesIn w a fs) (hs : Short fs) (hlen : fs.length ≤ maxLen) (hsum : sumLen fs ≤ 1000000000) :
    Calls Tryz.prog 25 #[.agg #[.slice a fs.length cap, .int .i64 c, .int .i64 k0, .int .i64 cr, .int .i64 fl, .bool dn]] w fun e w' => e = .returned (.bool (diskB fs c k0 cr fl)) ∧ Below w.heap.size w w' := by
  obtain ⟨z0, z1, z2, z3, z4, z5⟩ := box_cells w (.slice a fs.length cap) (.int .i64 c) (.int .i64 k0) (.int .i64 cr) (.int .i64 fl) (.bool dn) 28
  have d0 := Later.cells z0
  have d1 := Later.cells z1
  have d2 := Later.cells z2
  have d3 := Later.cells z3
  have d4 := Later.cells z4
  have d5 := Later.cells z5
  have hb0 : Below w.heap.size w (w.alloc (.cells #[.slice a fs.length cap, .int .i64 c, .int .i64 k0, .int .i64 cr, .int .i64 fl, .bool dn] 28)) := (Below.refl _ _).alloc (Nat.le_refl _) _
  have hne := Later.there (w.alloc (.cells #[.slice a fs.length cap, .int .i64 c, .int .i64 k0, .int .i64 cr, .int .i64 fl, .bool dn] 28))
  have HFx : Hid (∀ x : Later (w.alloc (.cells #[.slice a fs.length cap, .int .i64 c, .int .i64 k0, .int .i64 cr, .int .i64 fl, .bool dn] 28)), FilesIn x.w' a fs) := fun x => (hf.later hb0).later x.h
  have HB : Hid (∀ x : Later (w.alloc (.cells #[.slice a fs.length cap, .int .i64 c, .int .i64 k0, .int .i64 cr, .int .i64 fl, .bool dn] 28)), Below w.heap.size w x.w') := fun x => hb0.trans (x.h.mono hb0.size)
  have HS : Hid (Short fs) := hs
  have HL : Hid (fs.length ≤ maxLen) := hlen
  unfold maxLen at hlen
  clear z0 z1 z2 z3 z4 z5 hb0 hf hs
  by_cases hA0 : (1000 : Int) < fs.length
  · have E : Hid (diskB fs c k0 cr fl = false) := by
      show _ = _
      have e : decide (fs.length ≤ 1000) = false := by simp; omega
      simp only [diskB, e, Bool.false_and]
    go_enter Tryz.func25, Tryz.ntmps25
    go_wp2_with fail
    refine wp_region_later (by kernel_rfl) (by kernel_rfl) ?_
    repeat (go_big_quiet_step (fail))
    refine wpQuiet_nil ?_
    rintro _ ⟨x, rfl⟩
    go_wp2
    go_ret
    exact ⟨ret_bool E.out.symm, HB.out x⟩
  have hA1 : decide ((1000 : Int) < fs.length) = false := by simp; omega
  have hA2 : decide (1000 < fs.length) = false := by simp; omega
  have qA : decide (fs.length ≤ 1000) = true := by simp; omega
  by_cases hB0 : btwB c 0 1000000000 = false
  · have E : Hid (diskB fs c k0 cr fl = false) := by show _ = _; simp only [diskB, hB0, Bool.and_false, Bool.false_and]
    have HB1 : Hid (btwB c 0 1000000000 = false) := hB0
    clear hB0 qA
    go_enter Tryz.func25, Tryz.ntmps25
    go_wp2_with fail
    refine wp_region_later (by kernel_rfl) (by kernel_rfl) ?_
    repeat (go_big_quiet_step (first | (go_at_call 55; apply calls_later_same; apply between_is; exact HB1.out)))
    refine wpQuiet_nil ?_
    rintro _ ⟨x, rfl⟩
    go_wp2
    go_ret
    exact ⟨ret_bool E.out.symm, HB.out x⟩
  have qB : btwB c 0 1000000000 = true := by simpa using hB0
  have HB1 : Hid (btwB c 0 1000000000 = true) := qB
  clear hB0
  by_cases hC0 : c < (sumLen fs : Int)
  · have E : Hid (diskB fs c k0 cr fl = false) := by
      show _ = _
      have e : decide ((sumLen fs : Int) ≤ c) = false := by simp; omega
      simp only [diskB, e, Bool.and_false, Bool.false_and]
    clear qA qB
    go_enter Tryz.func25, Tryz.ntmps25
    go_wp2_with fail
    refine wp_region_later (by kernel_rfl) (by kernel_rfl) ?_
    repeat (go_big_quiet_step (first | (go_at_call 55; apply calls_later_same; apply between_is; exact HB1.out) | (go_at_call 56; exact calls_later (l1Bytes_any _ _ _ _ _ _ _ _ _ (HFx.out _) HL.out hsum))))
    refine wpQuiet_nil ?_
    rintro _ ⟨x, rfl⟩
    go_wp2
    go_ret
    exact ⟨ret_bool E.out.symm, HB.out x⟩
  have hC1 : decide (c < (sumLen fs : Int)) = false := by simp; omega
  have qC : decide ((sumLen fs : Int) ≤ c) = true := by simp; omega
  have E : Hid (diskB fs c k0 cr fl = (filesB fs && btwB k0 0 1000000000000000 && btwB cr 0 1000000000000000 && btwB fl 0 1000000000000000)) := by show _ = _; simp only [diskB, qA, qB, qC, Bool.true_and, Bool.and_true]
  clear qA qB qC
  go_enter Tryz.func25, Tryz.ntmps25
  go_wp2_with fail
  refine wp_region_later (by kernel_rfl) (by kernel_rfl) ?_
  repeat (go_big_quiet_step (first | (go_at_call 55; apply calls_later_same; apply between_is; exact HB1.out) | (go_at_call 56; exact calls_later (l1Bytes_any _ _ _ _ _ _ _ _ _ (HFx.out _) HL.out hsum))))
  refine wpQuiet_nil ?_
  rintro _ ⟨x, rfl⟩
  have HF : Hid (FilesIn x.w' a fs) := HFx.out x
  have HBx : Hid (Below w.heap.size w x.w') := HB.out x
  have hbox : w.heap.size < x.w'.heap.size := by have := x.h.size; simp at this; omega
  have e0 := d0 x
  have e1 := d1 x
  have e2 := d2 x
  have e3 := d3 x
  have e4 := d4 x
  clear d0 d1 d2 d3 d4 d5 HFx HB hne HB1
  generalize x.w' = W at *
  clear x
  have HC : Hid (∀ wr, Below W.heap.size W wr → wr.cell? ⟨w.heap.size, 0, none⟩ = some (.slice a fs.length cap) ∧ wr.cell? ⟨w.heap.size, 2, none⟩ = some (.int .i64 k0) ∧
      wr.cell? ⟨w.heap.size, 3, none⟩ = some (.int .i64 cr) ∧ wr.cell? ⟨w.heap.size, 4, none⟩ = some (.int .i64 fl)) := fun wr h =>
    ⟨(h.cell hbox).trans e0, (h.cell hbox).trans e2, (h.cell hbox).trans e3, (h.cell hbox).trans e4⟩
  go_wp2
  go_loopw [3, 4, 25] (fun _ _ i wr => ∃ k : Nat, k ≤ fs.length ∧ i = .int .i64 k ∧ okTo fs k = true ∧ Below W.heap.size W wr) (fun _ _ i _ => fs.length - (intOf i).toNat)
  case atStart => exact ⟨0, Nat.zero_le _, rfl, rfl, Below.refl _ _⟩
  case round =>
    obtain ⟨k, hk, rfl, hok, hbel⟩ := hrel
    obtain ⟨e0', e2', e3', e4'⟩ := HC.out wr hbel
    have HOK : Hid (okTo fs k = true) := hok
    have HBw : Hid (Below w.heap.size w wr) := HBx.out.trans (hbel.mono (Nat.le_of_lt hbox))
    have HSZ : w.heap.size < wr.heap.size := by have := hbel.size; omega
    have hsz2 : ¬ w.heap.size = wr.heap.size := by omega
    clear hok e0 e1 e2 e3 e4 HBx HC
    by_cases hlt : k < fs.length
    · obtain ⟨b, o, rfl, hb, c0, c1, c2⟩ := (HF.out.later hbel).at hlt
      have hsh := (HS.out k hlt).1
      have hsd := (HS.out k hlt).2
      have HSH : Hid (fs[k].name.size ≤ maxLen) := hsh
      unfold maxLen at hsd
      clear hsh
      by_cases hn : nameB fs[k].name = false
      · have hat : okAt fs k = false := by simp [okAt, List.getElem?_eq_getElem hlt, fileB, hn]
        have HT : Hid (okTo fs fs.length = false) := okTo_not hat hlt
        have HN : Hid (nameB fs[k].name = false) := hn
        clear hat hn
        go_wp2_with (first | (go_at_call 57; refine (l1FileName_is HN.out _ HSH.out).mono ?_; rintro e w' ⟨rfl, rfl⟩))
        go_ret
        exact ⟨ret_bool (by rw [E.out, filesB, HT.out]; simp), HBw.out.alloc (Nat.le_of_lt HSZ) _⟩
      · have hn' : nameB fs[k].name = true := by simpa using hn
        have HN : Hid (nameB fs[k].name = true) := hn'
        by_cases hs2 : btwB fs[k].synced 0 fs[k].data.size = false
        · have hat : okAt fs k = false := by simp [okAt, List.getElem?_eq_getElem hlt, fileB, hs2]
          have HT : Hid (okTo fs fs.length = false) := okTo_not hat hlt
          have HN2 : Hid (btwB fs[k].synced 0 fs[k].data.size = false) := hs2
          clear hat hn hn' hs2
          go_wp2_with (first | (go_at_call 57; refine (l1FileName_is HN.out _ HSH.out).mono ?_; rintro e w' ⟨rfl, rfl⟩) | (go_at_call 55; refine (between_is HN2.out _).mono ?_; rintro e w' ⟨rfl, rfl⟩))
          go_ret
          exact ⟨ret_bool (by rw [E.out, filesB, HT.out]; simp), HBw.out.alloc (Nat.le_of_lt HSZ) _⟩
        · have hs2' : btwB fs[k].synced 0 fs[k].data.size = true := by simpa using hs2
          have HN2 : Hid (btwB fs[k].synced 0 fs[k].data.size = true) := hs2'
          have hfb : fileB fs[k] = true := by simp [fileB, hn', hs2']
          clear hn hn' hs2 hs2'
          by_cases hk0 : (0 : Int) < k
          · obtain ⟨b2, o2, e2, q1, c0', q2, q3⟩ := (HF.out.later hbel).at (i := k - 1) (by omega)
            simp only [Option.some.injEq, Addr.mk.injEq, and_true] at e2
            obtain ⟨rfl, rfl⟩ := e2
            have hat : okAt fs k = Op.bytesLess fs[k - 1].name.toList fs[k].name.toList := by
              obtain ⟨j, rfl⟩ : ∃ j, k = j + 1 := ⟨k - 1, by omega⟩
              simp [okAt, List.getElem?_eq_getElem hlt, List.getElem?_eq_getElem (show j < fs.length by omega), hfb]
            generalize fs[k - 1].name = gn at c0' hat
            have hk1 : 0 < k := by omega
            have hb3 : ¬ b = wr.heap.size := by omega
            clear q1 q2 q3 hfb
            by_cases hl : Op.bytesLess gn.toList fs[k].name.toList = true
            · have HT : Hid (okTo fs (k + 1) = true) := by show okTo fs (k + 1) = true; rw [okTo_succ, HOK.out, hat, hl]; rfl
              clear hat
              go_wp2_with (first | (go_at_call 57; refine (l1FileName_is HN.out _ HSH.out).mono ?_; rintro e w' ⟨rfl, rfl⟩) | (go_at_call 55; refine (between_is HN2.out _).mono ?_; rintro e w' ⟨rfl, rfl⟩))
              go_quiet (fail)
              go_wp2
              exact ⟨⟨k + 1, by omega, by go_num, HT.out, below_drewN (hbel.alloc hbel.size _) _⟩, by simp [intOf]; omega⟩
            · have hl' : Op.bytesLess gn.toList fs[k].name.toList = false := by simpa using hl
              have HT : Hid (okTo fs fs.length = false) := okTo_not (by rw [hat]; exact hl') hlt
              clear hat hl
              go_wp2_with (first | (go_at_call 57; refine (l1FileName_is HN.out _ HSH.out).mono ?_; rintro e w' ⟨rfl, rfl⟩) | (go_at_call 55; refine (between_is HN2.out _).mono ?_; rintro e w' ⟨rfl, rfl⟩))
              go_quiet (fail)
              go_wp2
              go_ret
              exact ⟨ret_bool (by rw [E.out, filesB, HT.out]; simp), below_drewN (HBw.out.alloc (Nat.le_of_lt HSZ) _) _⟩
          · have hat : okAt fs k = true := by
              obtain rfl : k = 0 := by omega
              simp [okAt, List.getElem?_eq_getElem hlt, hfb]
            have HT : Hid (okTo fs (k + 1) = true) := by show okTo fs (k + 1) = true; rw [okTo_succ, HOK.out, hat]; rfl
            have hk1 : decide (0 < k) = false := by simp; omega
            clear hat hfb
            go_wp2_with (first | (go_at_call 57; refine (l1FileName_is HN.out _ HSH.out).mono ?_; rintro e w' ⟨rfl, rfl⟩) | (go_at_call 55; refine (between_is HN2.out _).mono ?_; rintro e w' ⟨rfl, rfl⟩))
            go_quiet (fail)
            go_wp2
            exact ⟨⟨k + 1, by omega, by go_num, HT.out, below_drewN (hbel.alloc hbel.size _) _⟩, by simp [intOf]; omega⟩
    · have ek : k = fs.length := by omega
      have E2 : Hid (diskB fs c k0 cr fl = (btwB k0 0 1000000000000000 && btwB cr 0 1000000000000000 && btwB fl 0 1000000000000000)) := by
        show _ = _
        have := HOK.out
        rw [ek] at this
        rw [E.out, filesB, this, Bool.true_and]
      by_cases h1 : btwB k0 0 1000000000000000 = false
      · have H1 : Hid (btwB k0 0 1000000000000000 = false) := h1
        clear h1
        go_wp2_with (first | (go_at_call 55; refine (between_is H1.out _).mono ?_; rintro e w' ⟨rfl, rfl⟩))
        go_ret
        exact ⟨ret_bool (by rw [E2.out, H1.out]; rfl), HBw.out⟩
      have H1 : Hid (btwB k0 0 1000000000000000 = true) := by show _ = _; simpa using h1
      clear h1
      by_cases h2 : btwB cr 0 1000000000000000 = false
      · have H2 : Hid (btwB cr 0 1000000000000000 = false) := h2
        clear h2
        go_wp2_with fail
        refine (between_is H1.out _).mono ?_
        rintro e w' ⟨rfl, rfl⟩
        go_wp2_with fail
        refine (between_is H2.out _).mono ?_
        rintro e w' ⟨rfl, rfl⟩
        go_wp2
        go_ret
        exact ⟨ret_bool (by rw [E2.out, H1.out, H2.out]; rfl), HBw.out⟩
      have H2 : Hid (btwB cr 0 1000000000000000 = true) := by show _ = _; simpa using h2
      clear h2
      go_wp2_with fail
      refine (between_is H1.out _).mono ?_
      rintro e w' ⟨rfl, rfl⟩
      go_wp2_with fail
      refine (between_is H2.out _).mono ?_
      rintro e w' ⟨rfl, rfl⟩
      go_wp2_with fail
      refine (between_any _ _ _ _).mono ?_
      rintro e w' ⟨rfl, rfl⟩
      go_wp2
      go_ret
      exact ⟨ret_bool (by rw [E2.out, H1.out, H2.out]; rfl), HBw.out⟩
end Go.Proofs.YtflfopienjjlbaaGreatDoor

namespace Go.Proofs.YtflfopienjjlbaaGreatDoor
open Go.RowKit

theorem implValid_is {a : Option Addr} {cap : Nat} {fs : List FileD} {c k cr fl : Int} {dn b : Bool} (h : diskB fs c k cr fl = b) (w : World) (hf : FilesIn w a fs) (hs : Short fs) (hlen : fs.length ≤ maxLen) (hsum : sumLen fs ≤ 1000000000) :
    Calls Tryz.prog 33 #[.agg #[.slice a fs.length cap, .int .i64 c, .int .i64 k, .int .i64 cr, .int .i64 fl, .bool dn]] w fun e w' => e = .returned (.bool b) ∧ Below w.heap.size w w' := h ▸ implValid_any a cap fs c k cr fl dn w hf hs hlen hsum
theorem specValid_is {a : Option Addr} {cap : Nat} {fs : List FileD} {c k cr fl : Int} {dn b : Bool} (h : diskB fs c k cr fl = b) (w : World) (hf : FilesIn w a fs) (hs : Short fs) (hlen : fs.length ≤ maxLen) (hsum : sumLen fs ≤ 1000000000) :
    Calls Tryz.prog 25 #[.agg #[.slice a fs.length cap, .int .i64 c, .int .i64 k, .int .i64 cr, .int .i64 fl, .bool dn]] w fun e w' => e = .returned (.bool b) ∧ Below w.heap.size w w' := h ▸ specValid_any a cap fs c k cr fl dn w hf hs hlen hsum

theorem files_of_disk {fs : List FileD} {c k cr fl : Int} (h : diskB fs c k cr fl = true) : filesB fs = true ∧ fs.length ≤ 1000 ∧ 0 ≤ c ∧ c ≤ 1000000000 ∧ (sumLen fs : Int) ≤ c ∧ 0 ≤ k ∧ k ≤ 1000000000000000 ∧ 0 ≤ cr ∧ cr ≤ 1000000000000000 ∧ 0 ≤ fl ∧ fl ≤ 1000000000000000 := by
  simp only [diskB, btwB, Bool.and_eq_true, decide_eq_true_eq] at h
  obtain ⟨⟨⟨⟨⟨⟨h1, h2⟩, h3, h4⟩, h5⟩, h6, h7⟩, h8, h9⟩, h10, h11⟩ := h
  exact ⟨h2, h1, h3, h4, h5, h6, h7, h8, h9, h10, h11⟩
end Go.Proofs.YtflfopienjjlbaaGreatDoor

namespace Go.Proofs.YtflfopienjjlbaaGreatDoor
open Go.RowKit

theorem stepR_code (fs : List FileD) (c k cr fl : Int) (dn : Bool) (op : OpD) : (stepR fs c k cr fl dn op).1 ≤ 6 := by
  unfold stepR
  split
  · show (doR fs c op).1 ≤ 6
    unfold doR
    simp only
    repeat' split
    all_goals simp
  · rcases charge_cases k cr fl dn with h | h | h <;> simp [h]

theorem Owned.set_below {w : World} {B : Nat} {a : Option Addr} {fs : List FileD} (h : Owned w B a fs) {p : Addr} (hp : p.block < B) (v : Value) : Owned (w.setCell p v) B a fs := by
  rcases h with h | ⟨g, o, cur, t, rfl, hB, hg, h⟩
  · exact Or.inl h
  · have hb := Below.heap_setCell w p v g (by omega)
    have hk : ∀ j, (w.setCell p v).cell? ⟨g, j, none⟩ = w.cell? ⟨g, j, none⟩ := fun j => World.cell?_of_block hb
    exact Or.inr ⟨g, o, cur, t, rfl, hB, hb.trans hg, fun i hi => by simp only [hk]; exact h i hi⟩

/-- Three blocks that a call makes first: the disk's, the operation's, the answer's. -/
theorem three_boxes {w w1 : World} {x y z : Array Value} {tx ty tz : TypeId} (hb : Below (((w.alloc (.cells x tx)).alloc (.cells y ty)).alloc (.cells z tz)).heap.size (((w.alloc (.cells x tx)).alloc (.cells y ty)).alloc (.cells z tz)) w1) :
    Blk w1 w.heap.size x tx ∧ Blk w1 (w.heap.size + 1) y ty ∧ Blk w1 (w.heap.size + 1 + 1) z tz ∧ Below w.heap.size w w1 := by
  refine ⟨?_, ?_, ?_, bto (bto (bto (bnew _ _) (bnew _ _)) (bnew _ _)) hb⟩
  · exact (Blk.later (Blk.later (Blk.later (g := w.heap.size) (heap_alloc_new w (.cells x tx)) (Below.refl _ _)) (bnew _ _)) (bnew _ _)).later hb
  · have h := Blk.later (g := (w.alloc (.cells x tx)).heap.size) (heap_alloc_new (w.alloc (.cells x tx)) (.cells y ty)) (bto (bnew _ _) hb)
    simpa using h
  · have h := Blk.later (g := ((w.alloc (.cells x tx)).alloc (.cells y ty)).heap.size) (heap_alloc_new ((w.alloc (.cells x tx)).alloc (.cells y ty)) (.cells z tz)) hb
    simpa using h

/-- What DiskStep answers: the code, the files, and the rest of the disk. -/
def outR (fs : List FileD) (c k cr fl : Int) (dn : Bool) (op : OpD) : Nat × List FileD × Int × Int × Int × Int × Bool :=
  if (diskB fs c k cr fl && opB op) = true then ((stepR fs c k cr fl dn op).1, (stepR fs c k cr fl dn op).2.1, c, (stepR fs c k cr fl dn op).2.2.1, cr, fl, (stepR fs c k cr fl dn op).2.2.2) else (6, [], 0, 0, 0, 0, false)

/-- The value of an answer. -/
def outV (R : Nat × List FileD × Int × Int × Int × Int × Bool) (a : Option Addr) (cap : Nat) : Value :=
  .tuple #[.agg #[.slice a R.2.1.length cap, .int .i64 R.2.2.1, .int .i64 R.2.2.2.1, .int .i64 R.2.2.2.2.1, .int .i64 R.2.2.2.2.2.1, .bool R.2.2.2.2.2.2], .int .i64 R.1]

end Go.Proofs.YtflfopienjjlbaaGreatDoor

namespace Go.Proofs.YtflfopienjjlbaaGreatDoor
open Go.RowKit

/-- A disk's value, and a log's. -/
structure DiskD where
  fs : List FileD
  c : Int
  k : Int
  cr : Int
  fl : Int
  dn : Bool
structure LogD where
  first : Int
  last : Int
  size : Int

/-- The disk after an operation, and the code. -/
def stepD (D : DiskD) (op : OpD) : DiskD × Nat :=
  (⟨(outR D.fs D.c D.k D.cr D.fl D.dn op).2.1, (outR D.fs D.c D.k D.cr D.fl D.dn op).2.2.1, (outR D.fs D.c D.k D.cr D.fl D.dn op).2.2.2.1, (outR D.fs D.c D.k D.cr D.fl D.dn op).2.2.2.2.1, (outR D.fs D.c D.k D.cr D.fl D.dn op).2.2.2.2.2.1, (outR D.fs D.c D.k D.cr D.fl D.dn op).2.2.2.2.2.2⟩, (outR D.fs D.c D.k D.cr D.fl D.dn op).1)

/-- What the contracts of DiskStep want of a disk's files. -/
structure Fit (fs : List FileD) : Prop where
  short : Short fs
  len : fs.length ≤ 1048576
  sum : sumLen fs ≤ 1000000000

theorem fit_nil : Fit [] := ⟨fun i h => absurd h (by simp), by simp, by simp [sumLen]⟩

theorem sumLen_set (fs : List FileD) (i : Nat) (f : FileD) (h : i < fs.length) : sumLen (fs.set i f) + fs[i].data.size = sumLen fs + f.data.size := by
  induction fs generalizing i with
  | nil => exact absurd h (by simp)
  | cons g r ih =>
    cases i with
    | zero => simp [sumLen]; omega
    | succ i =>
      have := ih i (by simpa using h)
      simp only [List.set_cons_succ, List.getElem_cons_succ, sumLen]
      omega
theorem sumLen_mem {fs : List FileD} (i : Nat) (hi : i < fs.length) : fs[i].data.size ≤ sumLen fs := by
  have h1 := sumLen_take_succ fs i hi
  have h2 := sumLen_take_le fs (i + 1)
  omega
theorem short_mem {fs : List FileD} (h : Short fs) {f : FileD} (hf : f ∈ fs) : f.name.size ≤ maxLen ∧ f.data.size ≤ maxLen := by
  obtain ⟨i, hi, rfl⟩ := List.getElem_of_mem hf
  exact h i hi
theorem short_of {fs : List FileD} (h : ∀ f ∈ fs, f.name.size ≤ maxLen ∧ f.data.size ≤ maxLen) : Short fs := fun _ hi => h _ (List.getElem_mem hi)
theorem short_set {fs : List FileD} (h : Short fs) {i : Nat} {f : FileD} (hf : f.name.size ≤ maxLen ∧ f.data.size ≤ maxLen) : Short (fs.set i f) := short_of fun _ hg => by
  rcases List.mem_or_eq_of_mem_set hg with hg | rfl
  · exact short_mem h hg
  · exact hf
theorem sumLen_erase (fs : List FileD) (i : Nat) : sumLen (fs.eraseIdx i) ≤ sumLen fs := by
  induction fs generalizing i with
  | nil => simp
  | cons g r ih =>
    cases i with
    | zero => simp [sumLen]
    | succ i => have := ih i; simp only [List.eraseIdx_cons_succ, sumLen]; omega
theorem sumLen_eraseIdx (fs : List FileD) (i : Nat) (h : i < fs.length) : sumLen (fs.eraseIdx i) + fs[i].data.size = sumLen fs := by
  induction fs generalizing i with
  | nil => exact absurd h (by simp)
  | cons g r ih =>
    cases i with
    | zero => simp [sumLen]; omega
    | succ i =>
      have := ih i (by simpa using h)
      simp only [List.eraseIdx_cons_succ, List.getElem_cons_succ, sumLen]
      omega
theorem sumLen_filter (p : FileD → Bool) (fs : List FileD) : sumLen (fs.filter p) ≤ sumLen fs := by
  induction fs with
  | nil => simp
  | cons g r ih =>
    rw [List.filter_cons]
    split
    · simp only [sumLen]; omega
    · simp only [sumLen]; omega
theorem sumLen_place (fs : List FileD) (f : FileD) : sumLen (placeL fs f) = sumLen fs + f.data.size := by
  induction fs with
  | nil => simp [placeL, sumLen]
  | cons g r ih =>
    unfold placeL
    split
    · simp only [sumLen]; omega
    · simp only [sumLen, ih]; omega
theorem mem_place {fs : List FileD} {f g : FileD} (h : g ∈ placeL fs f) : g = f ∨ g ∈ fs := by
  induction fs with
  | nil => simp [placeL] at h; exact Or.inl h
  | cons x r ih =>
    unfold placeL at h
    split at h
    · simpa using h
    · rcases List.mem_cons.1 h with rfl | h
      · simp
      · rcases ih h with h | h
        · exact Or.inl h
        · exact Or.inr (List.mem_cons_of_mem _ h)
theorem sumLen_ins (fs : List FileD) (i : Nat) (f : FileD) : sumLen (insL fs i f) = sumLen fs + f.data.size := by
  have h := sumLen_append (fs.take i) (fs.drop i)
  rw [List.take_append_drop] at h
  rw [insL, sumLen_append]
  simp only [sumLen]
  omega

theorem fit_do {fs : List FileD} {c : Int} {op : OpD} (h : Fit fs) (h1 : fs.length ≤ 1000) (h3 : c ≤ 1000000000) (hn : op.name.size ≤ maxLen) (ht : op.to.size ≤ maxLen) : Fit (doR fs c op).2 := by
  have hM : (1000000000 : Nat) ≤ maxLen := by unfold maxLen; omega
  unfold doR
  simp only
  split
  · split
    · exact h
    · split
      · exact h
      · refine ⟨short_of fun f hf => ?_, ?_, ?_⟩
        · simp only [insL, List.mem_append, List.mem_cons] at hf
          rcases hf with hf | rfl | hf
          · exact short_mem h.short (List.mem_of_mem_take hf)
          · exact ⟨hn, by simp [maxLen]⟩
          · exact short_mem h.short (List.mem_of_mem_drop hf)
        · show (insL fs _ _).length ≤ _
          rw [insL]
          simp only [List.length_append, List.length_take, List.length_cons, List.length_drop]
          omega
        · show sumLen (insL fs _ _) ≤ _
          rw [sumLen_ins]
          have := h.sum
          simpa using this
  · split
    · exact h
    · rename_i f hf
      obtain ⟨hi, rfl⟩ := List.getElem?_eq_some_iff.1 hf
      have hmem := short_mem h.short (List.getElem_mem hi)
      have hle := sumLen_mem _ hi
      have hs := h.sum
      split
      · exact h
      · split
        · split
          · exact h
          · rename_i hc
            have hset := sumLen_set fs (posOf op.name fs) ⟨fs[posOf op.name fs].name, fs[posOf op.name fs].data ++ op.data, fs[posOf op.name fs].synced⟩ hi
            simp only [ByteArray.size_append] at hset
            refine ⟨short_set h.short ⟨hmem.1, ?_⟩, ?_, ?_⟩
            · show (fs[posOf op.name fs].data ++ op.data).size ≤ maxLen
              rw [ByteArray.size_append]
              omega
            · show (fs.set _ _).length ≤ _
              rw [List.length_set]; omega
            · show sumLen (fs.set _ _) ≤ _
              omega
        · split
          · have hset := sumLen_set fs (posOf op.name fs) ⟨fs[posOf op.name fs].name, fs[posOf op.name fs].data, fs[posOf op.name fs].data.size⟩ hi
            refine ⟨short_set h.short hmem, ?_, ?_⟩
            · show (fs.set _ _).length ≤ _
              rw [List.length_set]; omega
            · show sumLen (fs.set _ _) ≤ _
              simp only at hset
              omega
          · split
            · split
              · have hset := sumLen_set fs (posOf op.name fs) ⟨fs[posOf op.name fs].name, fs[posOf op.name fs].data.extract 0 op.size.toNat, op.size⟩ hi
                have hx : (fs[posOf op.name fs].data.extract 0 op.size.toNat).size ≤ fs[posOf op.name fs].data.size := by rw [ByteArray.size_extract]; omega
                refine ⟨short_set h.short ⟨hmem.1, ?_⟩, ?_, ?_⟩
                · show (fs[posOf op.name fs].data.extract 0 op.size.toNat).size ≤ maxLen
                  omega
                · show (fs.set _ _).length ≤ _
                  rw [List.length_set]; omega
                · show sumLen (fs.set _ _) ≤ _
                  simp only at hset
                  omega
              · exact h
            · split
              · have hlen : (fs.eraseIdx (posOf op.name fs)).length ≤ fs.length := by rw [List.length_eraseIdx]; split <;> omega
                have her := sumLen_eraseIdx fs (posOf op.name fs) hi
                refine ⟨short_of fun g hg => ?_, ?_, ?_⟩
                · rcases mem_place (fs := withoutL (fs.eraseIdx (posOf op.name fs)) op.to) (f := ⟨op.to, fs[posOf op.name fs].data, fs[posOf op.name fs].synced⟩) hg with rfl | hg
                  · exact ⟨ht, hmem.2⟩
                  · exact short_mem h.short (List.mem_of_mem_eraseIdx (List.mem_filter.1 hg).1)
                · show (withL _ _).length ≤ _
                  have hpl : ∀ (l : List FileD) (f : FileD), (placeL l f).length = l.length + 1 := fun l f => by
                    induction l with
                    | nil => rfl
                    | cons g r ih => unfold placeL; split <;> simp [ih]
                  have : (withoutL (fs.eraseIdx (posOf op.name fs)) op.to).length ≤ (fs.eraseIdx (posOf op.name fs)).length := List.length_filter_le _ _
                  rw [withL, hpl]
                  simp only
                  omega
                · show sumLen (withL _ _) ≤ _
                  have := sumLen_filter (fun f => !(f.name.toList == op.to.toList)) (fs.eraseIdx (posOf op.name fs))
                  rw [withL, sumLen_place]
                  simp only [withoutL]
                  omega
              · refine ⟨short_of fun g hg => short_mem h.short (List.mem_of_mem_eraseIdx hg), ?_, ?_⟩
                · show (fs.eraseIdx _).length ≤ _
                  rw [List.length_eraseIdx]; split <;> omega
                · show sumLen (fs.eraseIdx _) ≤ _
                  have := sumLen_erase fs (posOf op.name fs)
                  omega

theorem fit_step {D : DiskD} {op : OpD} (h : Fit D.fs) (hn : op.name.size ≤ maxLen) (ht : op.to.size ≤ maxLen) : Fit (stepD D op).1.fs := by
  show Fit (outR D.fs D.c D.k D.cr D.fl D.dn op).2.1
  unfold outR
  split
  · rename_i hq
    simp only [Bool.and_eq_true] at hq
    obtain ⟨_, h1, _, h3, _⟩ := files_of_disk hq.1
    unfold stepR
    split
    · exact fit_do h h1 h3 hn ht
    · exact h
  · exact fit_nil

def logB (L : LogD) : Bool := btwB L.last 1 999999 && btwB L.first 1 L.last && btwB L.size 0 1000000000
def opCreate (n : Int) : OpD := ⟨1, segS n, ⟨#[]⟩, ⟨#[]⟩, 0⟩
def opAppend (n : Int) (f : ByteArray) : OpD := ⟨2, segS n, ⟨#[]⟩, f, 0⟩
def opSync (n : Int) : OpD := ⟨3, segS n, ⟨#[]⟩, ⟨#[]⟩, 0⟩
def opCut (n : Int) (z : Int) : OpD := ⟨4, segS n, ⟨#[]⟩, ⟨#[]⟩, z⟩

/-- LogAppend from its second step on. -/
def appendT (D : DiskD) (L : LogD) (f : ByteArray) : DiskD × LogD × Nat :=
  if (stepD D (opAppend L.last f)).2 ≠ 0 then ((stepD D (opAppend L.last f)).1, L, (stepD D (opAppend L.last f)).2)
  else if (stepD (stepD D (opAppend L.last f)).1 (opSync L.last)).2 ≠ 0 then ((stepD (stepD D (opAppend L.last f)).1 (opSync L.last)).1, L, (stepD (stepD D (opAppend L.last f)).1 (opSync L.last)).2)
  else ((stepD (stepD D (opAppend L.last f)).1 (opSync L.last)).1, ⟨L.first, L.last, L.size + f.size⟩, 0)
def appendD (D : DiskD) (L : LogD) (p : ByteArray) (most : Int) : DiskD × LogD × Nat :=
  if (logB L && btwB most 1 1000000000) = false then (D, L, 21)
  else if frameS p = ByteArray.empty then (D, L, 22)
  else if L.size ≠ 0 ∧ most < L.size + (frameS p).size then
    if L.last = 999999 then (D, L, 23)
    else if (stepD D (opCreate (L.last + 1))).2 ≠ 0 then ((stepD D (opCreate (L.last + 1))).1, L, (stepD D (opCreate (L.last + 1))).2)
    else appendT (stepD D (opCreate (L.last + 1))).1 ⟨L.first, L.last + 1, 0⟩ (frameS p)
  else appendT D L (frameS p)

theorem append_new {D D1 : DiskD} {L : LogD} {p F : ByteArray} {most : Int} {x : Nat} (hF : frameS p = F) (h1 : ¬ (logB L && btwB most 1 1000000000) = false) (h2 : ¬ frameS p = ByteArray.empty) (h3 : L.size ≠ 0 ∧ most < L.size + F.size) (h4 : ¬ L.last = 999999) (hs : stepD D (opCreate (L.last + 1)) = (D1, x)) :
    appendD D L p most = if x ≠ 0 then (D1, L, x) else appendT D1 ⟨L.first, L.last + 1, 0⟩ F := by
  subst hF
  unfold appendD
  rw [if_neg h1, if_neg h2, if_pos h3, if_neg h4, hs]
theorem appendT_fail {D D1 : DiskD} {L : LogD} {f : ByteArray} {x : Nat} (hs : stepD D (opAppend L.last f) = (D1, x)) (hx : ¬ x = 0) : appendT D L f = (D1, L, x) := by
  unfold appendT
  rw [hs, if_pos hx]
theorem appendT_sync {D D1 D2 : DiskD} {L : LogD} {f : ByteArray} {x y : Nat} (hs : stepD D (opAppend L.last f) = (D1, x)) (hx : x = 0) (hs2 : stepD D1 (opSync L.last) = (D2, y)) : appendT D L f = if y ≠ 0 then (D2, L, y) else (D2, ⟨L.first, L.last, L.size + f.size⟩, 0) := by
  unfold appendT
  rw [hs, if_neg (by simp [hx])]
  simp only
  rw [hs2]
end Go.Proofs.YtflfopienjjlbaaGreatDoor

namespace Go.Proofs.YtflfopienjjlbaaGreatDoor
open Go.RowKit

/-- The log's three cells lie behind the drive's address. -/
def WrAt (w : World) (P D : Nat) (L : LogD) : Prop := Blk w P #[.pointer (some ⟨D, 0, none⟩), .int .i64 L.first, .int .i64 L.last, .int .i64 L.size] 68
theorem WrAt.later {w w' : World} {P D : Nat} {L : LogD} (h : WrAt w P D L) (hb : Below w.heap.size w w') : WrAt w' P D L := Blk.later h hb
theorem WrAt.cells {w : World} {P D : Nat} {L : LogD} (h : WrAt w P D L) : w.cell? ⟨P, 0, none⟩ = some (.pointer (some ⟨D, 0, none⟩)) ∧ w.cell? ⟨P, 1, none⟩ = some (.int .i64 L.first) ∧ w.cell? ⟨P, 2, none⟩ = some (.int .i64 L.last) ∧ w.cell? ⟨P, 3, none⟩ = some (.int .i64 L.size) := by
  refine ⟨?_, ?_, ?_, ?_⟩ <;> rw [Blk.cell h] <;> rfl

set_option maxRecDepth 100000 in
set_option maxHeartbeats 1000000 in
theorem isLog_any (L : LogD) (w : World) : Calls Tryz.prog 72 #[.agg #[.int .i64 L.first, .int .i64 L.last, .int .i64 L.size]] w fun e w' => e = .returned (.bool (logB L)) ∧ Below w.heap.size w w' := by
  obtain ⟨a, b, c⟩ := L
  have HB : Hid (Below w.heap.size w (w.alloc (.cells #[.int .i64 a, .int .i64 b, .int .i64 c] 30))) := bnew _ _
  by_cases h1 : 1 ≤ a
  · by_cases h2 : a ≤ b
    · by_cases h3 : b ≤ 999999
      · have e : Hid (logB ⟨a, b, c⟩ = btwB c 0 1000000000) := by
          show _ = _
          have e1 : btwB b 1 999999 = true := by simp [btwB]; omega
          have e2 : btwB a 1 b = true := by simp [btwB]; omega
          simp only [logB, e1, e2, Bool.true_and]
        go_enter Tryz.func72, Tryz.ntmps72
        go_wp2_with fail
        refine (within_any _ _ _).mono ?_
        rintro e w' ⟨rfl, hw⟩; replace hw := hw.symm; subst hw
        go_wp2
        go_ret
        exact ⟨ret_bool e.out.symm, HB.out⟩
      · have e : Hid (logB ⟨a, b, c⟩ = false) := by
          show _ = _
          have e1 : btwB b 1 999999 = false := by simp [btwB]; omega
          simp [logB, e1]
        go_enter Tryz.func72, Tryz.ntmps72
        go_wp2
        go_ret
        exact ⟨ret_bool e.out.symm, HB.out⟩
    · have e : Hid (logB ⟨a, b, c⟩ = false) := by
        show _ = _
        have e1 : btwB a 1 b = false := by simp [btwB]; omega
        simp [logB, e1]
      go_enter Tryz.func72, Tryz.ntmps72
      go_wp2
      go_ret
      exact ⟨ret_bool e.out.symm, HB.out⟩
  · have e : Hid (logB ⟨a, b, c⟩ = false) := by
      show _ = _
      have e1 : btwB a 1 b = false := by simp [btwB]; omega
      simp [logB, e1]
    go_enter Tryz.func72, Tryz.ntmps72
    go_wp2
    go_ret
    exact ⟨ret_bool e.out.symm, HB.out⟩

def fullB (L : LogD) (z most : Int) : Bool := decide (L.size ≠ 0) && decide (most < L.size + z)

set_option maxRecDepth 100000 in
set_option maxHeartbeats 1000000 in
theorem full_any (P D : Nat) (L : LogD) (z most : Int) (w : World) (h : WrAt w P D L) (h0 : 0 ≤ L.size ∧ L.size ≤ 1000000000) (hz : 0 ≤ z ∧ z ≤ 1000000000) :
    Calls Tryz.prog 73 #[.pointer (some ⟨P, 0, none⟩), .int .i64 z, .int .i64 most] w fun e w' => e = .returned (.bool (fullB L z most)) ∧ w' = w := by
  obtain ⟨c0, c1, c2, c3⟩ := h.cells
  clear h c0 c1 c2
  obtain ⟨a, b, c⟩ := L
  simp only at h0 c3
  have hw : IntKind.i64.wrap (c + z) = c + z := by rw [IntKind.wrap_i64]; omega
  by_cases h1 : c = 0
  · subst h1
    have e : Hid (fullB ⟨a, b, 0⟩ z most = false) := by show _ = _; simp [fullB]
    go_enter Tryz.func73, Tryz.ntmps73
    go_wp2
    go_ret
    exact ⟨ret_bool e.out.symm, rfl⟩
  · have h1b : (c == 0) = false := by simpa using h1
    have e : Hid (fullB ⟨a, b, c⟩ z most = decide (most < c + z)) := by show _ = _; simp [fullB, h1]
    go_enter Tryz.func73, Tryz.ntmps73
    go_wp2
    go_ret
    exact ⟨ret_bool (by rw [e.out]; simp [h1]), rfl⟩
end Go.Proofs.YtflfopienjjlbaaGreatDoor

