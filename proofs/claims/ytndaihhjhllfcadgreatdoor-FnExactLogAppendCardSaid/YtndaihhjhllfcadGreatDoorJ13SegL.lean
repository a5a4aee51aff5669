import Derived.Test.YtndaihhjhllfcadGreatDoorProg
import Derived.Test.YtndaihhjhllfcadGreatDoorJ09Dv
import Derived.Test.YtndaihhjhllfcadGreatDoorJ12Step2
import Derived.Test.YtndaihhjhllfcadGreatDoorJ01Sz
import Derived.Laws.Bits64
import Derived.Deep.AppendLies
import Derived.Test.YtndaihhjhllfcadGreatDoorJ05Clone
import Derived.Laws.BytesArg
import Derived.Lib.ItoaNum
namespace Go.Proofs.YtndaihhjhllfcadGreatDoor
open Go.RowKit

theorem l1FileName_is {s : ByteArray} {b : Bool} (h : nameB s = b) (w : World) (hs : s.size ≤ maxLen) : Calls Tryz.prog 60 #[.string s] w fun e w' => e = .returned (.bool b) ∧ w' = w := h ▸ l1FileName_any s w hs

set_option maxHeartbeats 4000000 in
theorem specValid_any (a : Option Addr) (cap : Nat) (fs : List FileD) (c k0 cr fl : Int) (dn : Bool) (w : World) (hf : FilesIn w a fs) (hs : Short fs) (hlen : fs.length ≤ maxLen) (hsum : sumLen fs ≤ 1000000000) :
    Calls Tryz.prog 59 #[.agg #[.slice a fs.length cap, .int .i64 c, .int .i64 k0, .int .i64 cr, .int .i64 fl, .bool dn]] w fun e w' => e = .returned (.bool (diskB fs c k0 cr fl)) ∧ Below w.heap.size w w' := by
  obtain ⟨z0, z1, z2, z3, z4, z5⟩ := box_cells w (.slice a fs.length cap) (.int .i64 c) (.int .i64 k0) (.int .i64 cr) (.int .i64 fl) (.bool dn) 30
  have d0 := Later.cells z0
  have d1 := Later.cells z1
  have d2 := Later.cells z2
  have d3 := Later.cells z3
  have d4 := Later.cells z4
  have d5 := Later.cells z5
  have hb0 : Below w.heap.size w (w.alloc (.cells #[.slice a fs.length cap, .int .i64 c, .int .i64 k0, .int .i64 cr, .int .i64 fl, .bool dn] 30)) := (Below.refl _ _).alloc (Nat.le_refl _) _
  have hne := Later.there (w.alloc (.cells #[.slice a fs.length cap, .int .i64 c, .int .i64 k0, .int .i64 cr, .int .i64 fl, .bool dn] 30))
  have HFx : Hid (∀ x : Later (w.alloc (.cells #[.slice a fs.length cap, .int .i64 c, .int .i64 k0, .int .i64 cr, .int .i64 fl, .bool dn] 30)), FilesIn x.w' a fs) := fun x => (hf.later hb0).later x.h
  have HB : Hid (∀ x : Later (w.alloc (.cells #[.slice a fs.length cap, .int .i64 c, .int .i64 k0, .int .i64 cr, .int .i64 fl, .bool dn] 30)), Below w.heap.size w x.w') := fun x => hb0.trans (x.h.mono hb0.size)
  have HS : Hid (Short fs) := hs
  have HL : Hid (fs.length ≤ maxLen) := hlen
  unfold maxLen at hlen
  clear z0 z1 z2 z3 z4 z5 hb0 hf hs
  by_cases hA0 : (1000 : Int) < fs.length
  · have E : Hid (diskB fs c k0 cr fl = false) := by
      show _ = _
      have e : decide (fs.length ≤ 1000) = false := by simp; omega
      simp only [diskB, e, Bool.false_and]
    go_enter Tryz.func59, Tryz.ntmps59
    go_wp2_with fail
    refine wp_region_later (by kernel_rfl) (by kernel_rfl) ?_
    repeat (go_big_quiet_step (fail))
    refine wpQuiet_nil ?_
    rintro _ ⟨x, rfl⟩
    go_wp2
    go_ret
    exact ⟨ret_bool E.out.symm, HB.out x⟩
  have hA1 : decide ((1000 : Int) < fs.length) = false := by simp; omega
  have hA2 : decide (1000 < fs.length) = false := by simp; omega
  have qA : decide (fs.length ≤ 1000) = true := by simp; omega
  by_cases hB0 : btwB c 0 1000000000 = false
  · have E : Hid (diskB fs c k0 cr fl = false) := by show _ = _; simp only [diskB, hB0, Bool.and_false, Bool.false_and]
    have HB1 : Hid (btwB c 0 1000000000 = false) := hB0
    clear hB0 qA
    go_enter Tryz.func59, Tryz.ntmps59
    go_wp2_with fail
    refine wp_region_later (by kernel_rfl) (by kernel_rfl) ?_
    repeat (go_big_quiet_step (first | (go_at_call 25; apply calls_later_same; apply between_is; exact HB1.out)))
    refine wpQuiet_nil ?_
    rintro _ ⟨x, rfl⟩
    go_wp2
    go_ret
    exact ⟨ret_bool E.out.symm, HB.out x⟩
  have qB : btwB c 0 1000000000 = true := by simpa using hB0
  have HB1 : Hid (btwB c 0 1000000000 = true) := qB
  clear hB0
  by_cases hC0 : c < (sumLen fs : Int)
  · have E : Hid (diskB fs c k0 cr fl = false) := by
      show _ = _
      have e : decide ((sumLen fs : Int) ≤ c) = false := by simp; omega
      simp only [diskB, e, Bool.and_false, Bool.false_and]
    clear qA qB
    go_enter Tryz.func59, Tryz.ntmps59
    go_wp2_with fail
    refine wp_region_later (by kernel_rfl) (by kernel_rfl) ?_
    repeat (go_big_quiet_step (first | (go_at_call 25; apply calls_later_same; apply between_is; exact HB1.out) | (go_at_call 103; exact calls_later (l1Bytes_any _ _ _ _ _ _ _ _ _ (HFx.out _) HL.out hsum))))
    refine wpQuiet_nil ?_
    rintro _ ⟨x, rfl⟩
    go_wp2
    go_ret
    exact ⟨ret_bool E.out.symm, HB.out x⟩
  have hC1 : decide (c < (sumLen fs : Int)) = false := by simp; omega
  have qC : decide ((sumLen fs : Int) ≤ c) = true := by simp; omega
  have E : Hid (diskB fs c k0 cr fl = (filesB fs && btwB k0 0 1000000000000000 && btwB cr 0 1000000000000000 && btwB fl 0 1000000000000000)) := by show _ = _; simp only [diskB, qA, qB, qC, Bool.true_and, Bool.and_true]
  clear qA qB qC
  go_enter Tryz.func59, Tryz.ntmps59
  go_wp2_with fail
  refine wp_region_later (by kernel_rfl) (by kernel_rfl) ?_
  repeat (go_big_quiet_step (first | (go_at_call 25; apply calls_later_same; apply between_is; exact HB1.out) | (go_at_call 103; exact calls_later (l1Bytes_any _ _ _ _ _ _ _ _ _ (HFx.out _) HL.out hsum))))
  refine wpQuiet_nil ?_
  rintro _ ⟨x, rfl⟩
  have HF : Hid (FilesIn x.w' a fs) := HFx.out x
  have HBx : Hid (Below w.heap.size w x.w') := HB.out x
  have hbox : w.heap.size < x.w'.heap.size := by have := x.h.size; simp at this; omega
  have e0 := d0 x
  have e1 := d1 x
  have e2 := d2 x
  have e3 := d3 x
  have e4 := d4 x
  clear d0 d1 d2 d3 d4 d5 HFx HB hne HB1
  generalize x.w' = W at *
  clear x
  have HC : Hid (∀ wr, Below W.heap.size W wr → wr.cell? ⟨w.heap.size, 0, none⟩ = some (.slice a fs.length cap) ∧ wr.cell? ⟨w.heap.size, 2, none⟩ = some (.int .i64 k0) ∧
      wr.cell? ⟨w.heap.size, 3, none⟩ = some (.int .i64 cr) ∧ wr.cell? ⟨w.heap.size, 4, none⟩ = some (.int .i64 fl)) := fun wr h =>
    ⟨(h.cell hbox).trans e0, (h.cell hbox).trans e2, (h.cell hbox).trans e3, (h.cell hbox).trans e4⟩
  go_wp2
  go_loopw [3, 4, 25] (fun _ _ i wr => ∃ k : Nat, k ≤ fs.length ∧ i = .int .i64 k ∧ okTo fs k = true ∧ Below W.heap.size W wr) (fun _ _ i _ => fs.length - (intOf i).toNat)
  case atStart => exact ⟨0, Nat.zero_le _, rfl, rfl, Below.refl _ _⟩
  case round =>
    obtain ⟨k, hk, rfl, hok, hbel⟩ := hrel
    obtain ⟨e0', e2', e3', e4'⟩ := HC.out wr hbel
    have HOK : Hid (okTo fs k = true) := hok
    have HBw : Hid (Below w.heap.size w wr) := HBx.out.trans (hbel.mono (Nat.le_of_lt hbox))
    have HSZ : w.heap.size < wr.heap.size := by have := hbel.size; omega
    have hsz2 : ¬ w.heap.size = wr.heap.size := by omega
    clear hok e0 e1 e2 e3 e4 HBx HC
    by_cases hlt : k < fs.length
    · obtain ⟨b, o, rfl, hb, c0, c1, c2⟩ := (HF.out.later hbel).at hlt
      have hsh := (HS.out k hlt).1
      have hsd := (HS.out k hlt).2
      have HSH : Hid (fs[k].name.size ≤ maxLen) := hsh
      unfold maxLen at hsd
      clear hsh
      by_cases hn : nameB fs[k].name = false
      · have hat : okAt fs k = false := by simp [okAt, List.getElem?_eq_getElem hlt, fileB, hn]
        have HT : Hid (okTo fs fs.length = false) := okTo_not hat hlt
        have HN : Hid (nameB fs[k].name = false) := hn
        clear hat hn
        go_wp2_with (first | (go_at_call 60; refine (l1FileName_is HN.out _ HSH.out).mono ?_; rintro e w' ⟨rfl, rfl⟩))
        go_ret
        exact ⟨ret_bool (by rw [E.out, filesB, HT.out]; simp), HBw.out.alloc (Nat.le_of_lt HSZ) _⟩
      · have hn' : nameB fs[k].name = true := by simpa using hn
        have HN : Hid (nameB fs[k].name = true) := hn'
        by_cases hs2 : btwB fs[k].synced 0 fs[k].data.size = false
        · have hat : okAt fs k = false := by simp [okAt, List.getElem?_eq_getElem hlt, fileB, hs2]
          have HT : Hid (okTo fs fs.length = false) := okTo_not hat hlt
          have HN2 : Hid (btwB fs[k].synced 0 fs[k].data.size = false) := hs2
          clear hat hn hn' hs2
          go_wp2_with (first | (go_at_call 60; refine (l1FileName_is HN.out _ HSH.out).mono ?_; rintro e w' ⟨rfl, rfl⟩) | (go_at_call 25; refine (between_is HN2.out _).mono ?_; rintro e w' ⟨rfl, rfl⟩))
          go_ret
          exact ⟨ret_bool (by rw [E.out, filesB, HT.out]; simp), HBw.out.alloc (Nat.le_of_lt HSZ) _⟩
        · have hs2' : btwB fs[k].synced 0 fs[k].data.size = true := by simpa using hs2
          have HN2 : Hid (btwB fs[k].synced 0 fs[k].data.size = true) := hs2'
          have hfb : fileB fs[k] = true := by simp [fileB, hn', hs2']
          clear hn hn' hs2 hs2'
          by_cases hk0 : (0 : Int) < k
          · obtain ⟨b2, o2, e2, q1, c0', q2, q3⟩ := (HF.out.later hbel).at (i := k - 1) (by omega)
            simp only [Option.some.injEq, Addr.mk.injEq, and_true] at e2
            obtain ⟨rfl, rfl⟩ := e2
            have hat : okAt fs k = Op.bytesLess fs[k - 1].name.toList fs[k].name.toList := by
              obtain ⟨j, rfl⟩ : ∃ j, k = j + 1 := ⟨k - 1, by omega⟩
              simp [okAt, List.getElem?_eq_getElem hlt, List.getElem?_eq_getElem (show j < fs.length by omega), hfb]
            generalize fs[k - 1].name = gn at c0' hat
            have hk1 : 0 < k := by omega
            have hb3 : ¬ b = wr.heap.size := by omega
            clear q1 q2 q3 hfb
            by_cases hl : Op.bytesLess gn.toList fs[k].name.toList = true
            · have HT : Hid (okTo fs (k + 1) = true) := by show okTo fs (k + 1) = true; rw [okTo_succ, HOK.out, hat, hl]; rfl
              clear hat
              go_wp2_with (first | (go_at_call 60; refine (l1FileName_is HN.out _ HSH.out).mono ?_; rintro e w' ⟨rfl, rfl⟩) | (go_at_call 25; refine (between_is HN2.out _).mono ?_; rintro e w' ⟨rfl, rfl⟩))
              go_quiet (fail)
              go_wp2
              exact ⟨⟨k + 1, by omega, by go_num, HT.out, below_drewN (hbel.alloc hbel.size _) _⟩, by simp [intOf]; omega⟩
            · have hl' : Op.bytesLess gn.toList fs[k].name.toList = false := by simpa using hl
              have HT : Hid (okTo fs fs.length = false) := okTo_not (by rw [hat]; exact hl') hlt
              clear hat hl
              go_wp2_with (first | (go_at_call 60; refine (l1FileName_is HN.out _ HSH.out).mono ?_; rintro e w' ⟨rfl, rfl⟩) | (go_at_call 25; refine (between_is HN2.out _).mono ?_; rintro e w' ⟨rfl, rfl⟩))
              go_quiet (fail)
              go_wp2
              go_ret
              exact ⟨ret_bool (by rw [E.out, filesB, HT.out]; simp), below_drewN (HBw.out.alloc (Nat.le_of_lt HSZ) _) _⟩
          · have hat : okAt fs k = true := by
              obtain rfl : k = 0 := by omega
              simp [okAt, List.getElem?_eq_getElem hlt, hfb]
            have HT : Hid (okTo fs (k + 1) = true) := by show okTo fs (k + 1) = true; rw [okTo_succ, HOK.out, hat]; rfl
            have hk1 : decide (0 < k) = false := by simp; omega
            clear hat hfb
            go_wp2_with (first | (go_at_call 60; refine (l1FileName_is HN.out _ HSH.out).mono ?_; rintro e w' ⟨rfl, rfl⟩) | (go_at_call 25; refine (between_is HN2.out _).mono ?_; rintro e w' ⟨rfl, rfl⟩))
            go_quiet (fail)
            go_wp2
            exact ⟨⟨k + 1, by omega, by go_num, HT.out, below_drewN (hbel.alloc hbel.size _) _⟩, by simp [intOf]; omega⟩
    · have ek : k = fs.length := by omega
      have E2 : Hid (diskB fs c k0 cr fl = (btwB k0 0 1000000000000000 && btwB cr 0 1000000000000000 && btwB fl 0 1000000000000000)) := by
        show _ = _
        have := HOK.out
        rw [ek] at this
        rw [E.out, filesB, this, Bool.true_and]
      by_cases h1 : btwB k0 0 1000000000000000 = false
      · have H1 : Hid (btwB k0 0 1000000000000000 = false) := h1
        clear h1
        go_wp2_with (first | (go_at_call 25; refine (between_is H1.out _).mono ?_; rintro e w' ⟨rfl, rfl⟩))
        go_ret
        exact ⟨ret_bool (by rw [E2.out, H1.out]; rfl), HBw.out⟩
      have H1 : Hid (btwB k0 0 1000000000000000 = true) := by show _ = _; simpa using h1
      clear h1
      by_cases h2 : btwB cr 0 1000000000000000 = false
      · have H2 : Hid (btwB cr 0 1000000000000000 = false) := h2
        clear h2
        go_wp2_with fail
        refine (between_is H1.out _).mono ?_
        rintro e w' ⟨rfl, rfl⟩
        go_wp2_with fail
        refine (between_is H2.out _).mono ?_
        rintro e w' ⟨rfl, rfl⟩
        go_wp2
        go_ret
        exact ⟨ret_bool (by rw [E2.out, H1.out, H2.out]; rfl), HBw.out⟩
      have H2 : Hid (btwB cr 0 1000000000000000 = true) := by show _ = _; simpa using h2
      clear h2
      go_wp2_with fail
      refine (between_is H1.out _).mono ?_
      rintro e w' ⟨rfl, rfl⟩
      go_wp2_with fail
      refine (between_is H2.out _).mono ?_
      rintro e w' ⟨rfl, rfl⟩
      go_wp2_with fail
      refine (between_any _ _ _ _).mono ?_
      rintro e w' ⟨rfl, rfl⟩
      go_wp2
      go_ret
      exact ⟨ret_bool (by rw [E2.out, H1.out, H2.out]; rfl), HBw.out⟩
end Go.Proofs.YtndaihhjhllfcadGreatDoor

namespace Go.Proofs.YtndaihhjhllfcadGreatDoor
open Go.RowKit

theorem implValid_is {a : Option Addr} {cap : Nat} {fs : List FileD} {c k cr fl : Int} {dn b : Bool} (h : diskB fs c k cr fl = b) (w : World) (hf : FilesIn w a fs) (hs : Short fs) (hlen : fs.length ≤ maxLen) (hsum : sumLen fs ≤ 1000000000) :
    Calls Tryz.prog 33 #[.agg #[.slice a fs.length cap, .int .i64 c, .int .i64 k, .int .i64 cr, .int .i64 fl, .bool dn]] w fun e w' => e = .returned (.bool b) ∧ Below w.heap.size w w' := h ▸ implValid_any a cap fs c k cr fl dn w hf hs hlen hsum
theorem specValid_is {a : Option Addr} {cap : Nat} {fs : List FileD} {c k cr fl : Int} {dn b : Bool} (h : diskB fs c k cr fl = b) (w : World) (hf : FilesIn w a fs) (hs : Short fs) (hlen : fs.length ≤ maxLen) (hsum : sumLen fs ≤ 1000000000) :
    Calls Tryz.prog 59 #[.agg #[.slice a fs.length cap, .int .i64 c, .int .i64 k, .int .i64 cr, .int .i64 fl, .bool dn]] w fun e w' => e = .returned (.bool b) ∧ Below w.heap.size w w' := h ▸ specValid_any a cap fs c k cr fl dn w hf hs hlen hsum

theorem files_of_disk {fs : List FileD} {c k cr fl : Int} (h : diskB fs c k cr fl = true) : filesB fs = true ∧ fs.length ≤ 1000 ∧ 0 ≤ c ∧ c ≤ 1000000000 ∧ (sumLen fs : Int) ≤ c ∧ 0 ≤ k ∧ k ≤ 1000000000000000 ∧ 0 ≤ cr ∧ cr ≤ 1000000000000000 ∧ 0 ≤ fl ∧ fl ≤ 1000000000000000 := by
  simp only [diskB, btwB, Bool.and_eq_true, decide_eq_true_eq] at h
  obtain ⟨⟨⟨⟨⟨⟨h1, h2⟩, h3, h4⟩, h5⟩, h6, h7⟩, h8, h9⟩, h10, h11⟩ := h
  exact ⟨h2, h1, h3, h4, h5, h6, h7, h8, h9, h10, h11⟩
end Go.Proofs.YtndaihhjhllfcadGreatDoor

namespace Go.Proofs.YtndaihhjhllfcadGreatDoor
open Go.RowKit

theorem stepR_code (fs : List FileD) (c k cr fl : Int) (dn : Bool) (op : OpD) : (stepR fs c k cr fl dn op).1 ≤ 6 := by
  unfold stepR
  split
  · show (doR fs c op).1 ≤ 6
    unfold doR
    simp only
    repeat' split
    all_goals simp
  · rcases charge_cases k cr fl dn with h | h | h <;> simp [h]

theorem Owned.set_below {w : World} {B : Nat} {a : Option Addr} {fs : List FileD} (h : Owned w B a fs) {p : Addr} (hp : p.block < B) (v : Value) : Owned (w.setCell p v) B a fs := by
  rcases h with h | ⟨g, o, cur, t, rfl, hB, hg, h⟩
  · exact Or.inl h
  · have hb := Below.heap_setCell w p v g (by omega)
    have hk : ∀ j, (w.setCell p v).cell? ⟨g, j, none⟩ = w.cell? ⟨g, j, none⟩ := fun j => World.cell?_of_block hb
    exact Or.inr ⟨g, o, cur, t, rfl, hB, hb.trans hg, fun i hi => by simp only [hk]; exact h i hi⟩

/-- Three blocks that a call makes first: the disk's, the operation's, the answer's. -/
theorem three_boxes {w w1 : World} {x y z : Array Value} {tx ty tz : TypeId} (hb : Below (((w.alloc (.cells x tx)).alloc (.cells y ty)).alloc (.cells z tz)).heap.size (((w.alloc (.cells x tx)).alloc (.cells y ty)).alloc (.cells z tz)) w1) :
    Blk w1 w.heap.size x tx ∧ Blk w1 (w.heap.size + 1) y ty ∧ Blk w1 (w.heap.size + 1 + 1) z tz ∧ Below w.heap.size w w1 := by
  refine ⟨?_, ?_, ?_, bto (bto (bto (bnew _ _) (bnew _ _)) (bnew _ _)) hb⟩
  · exact (Blk.later (Blk.later (Blk.later (g := w.heap.size) (heap_alloc_new w (.cells x tx)) (Below.refl _ _)) (bnew _ _)) (bnew _ _)).later hb
  · have h := Blk.later (g := (w.alloc (.cells x tx)).heap.size) (heap_alloc_new (w.alloc (.cells x tx)) (.cells y ty)) (bto (bnew _ _) hb)
    simpa using h
  · have h := Blk.later (g := ((w.alloc (.cells x tx)).alloc (.cells y ty)).heap.size) (heap_alloc_new ((w.alloc (.cells x tx)).alloc (.cells y ty)) (.cells z tz)) hb
    simpa using h

/-- What DiskStep answers: the code, the files, and the rest of the disk. -/
def outR (fs : List FileD) (c k cr fl : Int) (dn : Bool) (op : OpD) : Nat × List FileD × Int × Int × Int × Int × Bool :=
  if (diskB fs c k cr fl && opB op) = true then ((stepR fs c k cr fl dn op).1, (stepR fs c k cr fl dn op).2.1, c, (stepR fs c k cr fl dn op).2.2.1, cr, fl, (stepR fs c k cr fl dn op).2.2.2) else (6, [], 0, 0, 0, 0, false)

/-- The value of an answer. -/
def outV (R : Nat × List FileD × Int × Int × Int × Int × Bool) (a : Option Addr) (cap : Nat) : Value :=
  .tuple #[.agg #[.slice a R.2.1.length cap, .int .i64 R.2.2.1, .int .i64 R.2.2.2.1, .int .i64 R.2.2.2.2.1, .int .i64 R.2.2.2.2.2.1, .bool R.2.2.2.2.2.2], .int .i64 R.1]

end Go.Proofs.YtndaihhjhllfcadGreatDoor

namespace Go.Proofs.YtndaihhjhllfcadGreatDoor
open Go.RowKit

/-- One bit of the register. -/
def crcBit (reg x : Nat) : Nat := if (reg + x) % 2 = 1 then (reg / 2) ^^^ 2197175160 else reg / 2
/-- The first k bits of a byte. -/
def crcBits (reg b : Nat) : Nat → Nat
  | 0 => reg
  | k + 1 => crcBit (crcBits reg b k) (b / 2 ^ k)
def crcByte (reg : Nat) (c : UInt8) : Nat := crcBits reg c.toNat 8
def crcL (l : List UInt8) : Nat := l.foldl crcByte 4294967295
def crcV (s : ByteArray) : Nat := 4294967295 - crcL s.data.toList

theorem crcBit_lt {reg x : Nat} (h : reg < 4294967296) : crcBit reg x < 4294967296 := by
  unfold crcBit
  split
  · exact Nat.xor_lt_two_pow (n := 32) (by omega) (by omega)
  · omega
theorem crcBits_lt {reg b : Nat} (h : reg < 4294967296) : ∀ k, crcBits reg b k < 4294967296
  | 0 => h
  | k + 1 => crcBit_lt (crcBits_lt h k)
theorem crcL_lt (l : List UInt8) : crcL l < 4294967296 := by
  have hg : ∀ (l : List UInt8) (r : Nat), r < 4294967296 → l.foldl crcByte r < 4294967296 := fun l => by
    induction l with
    | nil => exact fun r h => h
    | cons c l ih => exact fun r h => ih _ (crcBits_lt h 8)
  exact hg l _ (by omega)
theorem crcL_snoc (l : List UInt8) (c : UInt8) : crcL (l ++ [c]) = crcByte (crcL l) c := by simp [crcL]
theorem crcV_lt (s : ByteArray) : crcV s < 4294967296 := by unfold crcV; omega

theorem xor_i64 (a b : Nat) (ha : a < 4611686018427387904) (hb : b < 4611686018427387904) : bits .xor .i64 (a : Int) (b : Int) = ((a ^^^ b : Nat) : Int) := by
  have hx : a ^^^ b < 2 ^ 62 := Nat.xor_lt_two_pow (by omega) (by omega)
  show IntKind.i64.wrap ((BitVec.ofInt 64 (a : Int) ^^^ BitVec.ofInt 64 (b : Int)).toNat : Int) = _
  rw [BitVec.toNat_xor, BitVec.ofInt_natCast, BitVec.ofInt_natCast, BitVec.toNat_ofNat, BitVec.toNat_ofNat, Nat.mod_eq_of_lt (by omega), Nat.mod_eq_of_lt (by omega)]
  simp only [IntKind.wrap, IntKind.bits, IntKind.signed]
  simp
  omega
end Go.Proofs.YtndaihhjhllfcadGreatDoor

namespace Go.Proofs.YtndaihhjhllfcadGreatDoor
open Go.RowKit

/-- The number that these bytes are, the highest first. -/
def beL (l : List UInt8) : Nat := l.foldl (fun v c => v * 256 + c.toNat) 0
theorem beL_snoc (l : List UInt8) (c : UInt8) : beL (l ++ [c]) = beL l * 256 + c.toNat := by simp [beL]
theorem beL_lt (l : List UInt8) : beL l < 256 ^ l.length := by
  have hg : ∀ (n : Nat) (l : List UInt8), l.length = n → beL l < 256 ^ n := fun n => by
    induction n with
    | zero => intro l h; rw [List.length_eq_zero_iff.1 h]; decide
    | succ n ih =>
      intro l h
      have hne : l ≠ [] := by intro e; rw [e] at h; simp at h
      rw [← List.dropLast_concat_getLast hne, beL_snoc]
      have h1 := ih l.dropLast (by simp [h])
      have h2 := (l.getLast hne).toNat_lt
      rw [Nat.pow_succ]
      omega
  exact hg _ l rfl
/-- n bytes of s from p on. -/
def sectL (s : ByteArray) (p n : Nat) : List UInt8 := (s.data.toList.drop p).take n
theorem sectL_length {s : ByteArray} {p n : Nat} (h : p + n ≤ s.size) : (sectL s p n).length = n := by
  have : s.data.toList.length = s.size := by simp
  simp only [sectL, List.length_take, List.length_drop]
  omega
theorem sectL_snoc {s : ByteArray} {p k : Nat} (h : p + k < s.size) : sectL s p (k + 1) = sectL s p k ++ [s[p + k]] := by
  have hl : s.data.toList.length = s.size := by simp
  unfold sectL
  rw [List.take_succ_eq_append_getElem (by rw [List.length_drop, hl]; omega), List.getElem_drop]
  rfl

end Go.Proofs.YtndaihhjhllfcadGreatDoor

namespace Go.Proofs.YtndaihhjhllfcadGreatDoor
open Go.RowKit

/-- v without its lowest k bytes. -/
def shrN (v : Int) : Nat → Int
  | 0 => v
  | k + 1 => shrN v k / 256
/-- The lowest n bytes of v, the highest first. -/
def numI (v : Int) : Nat → List Int
  | 0 => []
  | n + 1 => shrN v n % 256 :: numI v n
def numS (n : Nat) (v : Int) : ByteArray := strOfNums (numI v n)
theorem numI_length (v : Int) : ∀ n, (numI v n).length = n
  | 0 => rfl
  | n + 1 => by simp [numI, numI_length v n]
theorem numS_size (n : Nat) (v : Int) : (numS n v).size = n := by
  rw [numS, strOfNums_size, numI_length]

theorem info_u8 : ∃ i, Tryz.prog.info? 5 = some i ∧ i.zero = some (.int .u8 0) ∧ i.size = 1 ∧ i.bytes = 1 := by
  have h : (Tryz.prog.info? 5).map (fun i => (i.zero, i.size, i.bytes)) = some (some (.int .u8 0), 1, 1) := by kernel_rfl
  obtain ⟨i, hi, hz⟩ := Option.map_eq_some_iff.1 h
  simp only [Prod.mk.injEq] at hz
  exact ⟨i, hi, hz.1, hz.2.1, hz.2.2⟩

theorem shrN_rng (v : Int) (h0 : -9223372036854775808 ≤ v) (h1 : v ≤ 9223372036854775807) : ∀ k, -9223372036854775808 ≤ shrN v k ∧ shrN v k ≤ 9223372036854775807
  | 0 => ⟨h0, h1⟩
  | k + 1 => by have := shrN_rng v h0 h1 k; unfold shrN; omega

/-- A row of bytes of the call's own, as a string. -/
theorem conv_row {w : World} {B : Nat} {av : Option Addr} {cv : Nat} {ys : List Int} (h : w.ownsRow B 5 1 (.slice av ys.length cv) ys.length (ys.map (Value.int .u8))) :
    (convert 40 9 (.slice av ys.length cv)).run Tryz.prog w = .ok (.string (strOfNums ys)) w := by
  rcases h.2 with ⟨he, hl⟩ | ⟨g, cap, cur, he, _, hg, hle, _, hsz, htk⟩
  · simp only [Value.slice.injEq] at he
    obtain ⟨rfl, h1, rfl⟩ := he
    have e : ys = [] := List.length_eq_zero_iff.1 h1
    subst e
    exact run_convert_bytes_nil w 40 5 Tryz.underlying40 Tryz.underlying5 _ _ 9 Tryz.underlying9
  · simp only [Value.slice.injEq] at he
    obtain ⟨rfl, _, rfl⟩ := he
    refine run_convert_bytes_arg w 40 5 Tryz.underlying40 Tryz.underlying5 g 0 _ _ ys rfl (fun i hi => ?_) 9 Tryz.underlying9
    rw [Nat.zero_add, cell_of_row w g i cur _ _ hg]
    have h2 : (cur.toList.take (ys.length * 1))[i]? = (ys.map (Value.int .u8))[i]? := by rw [htk]
    rw [List.getElem?_take_of_lt (by omega)] at h2
    rw [← Array.getElem?_toList, h2]
    simp [List.getD, List.getElem?_eq_getElem hi]

set_option maxRecDepth 100000 in
set_option maxHeartbeats 1000000 in
theorem specNum_any (n : Nat) (v : Int) (w : World) (hn : n ≤ 8) (h0 : -9223372036854775808 ≤ v) (h1 : v ≤ 9223372036854775807) :
    Calls Tryz.prog 45 #[.int .i64 n, .int .i64 v] w fun e w' => e = .returned (.string (numS n v)) ∧ Below w.heap.size w w' := by
  obtain ⟨ti, hti, hz0, hz1, hz2⟩ := info_u8
  have HI : Hid (Tryz.prog.info? 5 = some ti) := hti
  clear hti
  have HV : Hid (-9223372036854775808 ≤ v ∧ v ≤ 9223372036854775807) := ⟨h0, h1⟩
  clear h0 h1
  go_enter Tryz.func45, Tryz.ntmps45
  go_wp2
  go_loopw [5, 6, 7, 8] (fun out i _ _ wr => ∃ (m : Nat) (ys : List Int) (av : Option Addr) (cv : Nat), ys.length + m = n ∧ Hid (ys ++ numI v m = numI v n) ∧ i = .int .i64 ((m : Int) - 1) ∧ out = .slice av ys.length cv ∧ Hid (wr.ownsRow w.heap.size 5 1 (.slice av ys.length cv) ys.length (ys.map (Value.int .u8))) ∧ Below w.heap.size w wr) (fun _ i _ _ _ => ((intOf i) + 1).toNat)
  case atStart =>
    exact ⟨n, [], _, _, by simp, by show _ = _; simp, by simp, rfl, World.ownsRow_made w #[] 0 (Nat.le_refl _) (by simp [maxLen]) (by simp), bnew _ _⟩
  case round =>
    obtain ⟨m, ys, av, cv, hm, hnum, rfl, rfl, hrow, hbel⟩ := hrel
    by_cases hp : 0 < m
    · obtain ⟨r, rfl⟩ : ∃ r, m = r + 1 := ⟨m - 1, by omega⟩
      have er : ((r + 1 : Nat) : Int) - 1 = (r : Int) := by omega
      rw [er]
      clear er
      go_wp2
      go_loop [7, 8] (fun x k => ∃ (j : Nat) (X : Int), j ≤ r ∧ k = .int .i64 j ∧ x = .int .i64 X ∧ Hid (X = shrN v j)) (fun _ k => r - (intOf k).toNat)
      case atStart => exact ⟨0, v, Nat.zero_le _, rfl, rfl, rfl⟩
      case round =>
        obtain ⟨j, X, hj, rfl, rfl, hX⟩ := hrel
        by_cases hlt : j < r
        · go_wp2
          exact ⟨⟨j + 1, X / 256, by omega, by go_num, rfl, by show _ = _; rw [shrN, hX.out]⟩, by simp [intOf]; omega⟩
        · have e : j = r := by omega
          subst e
          have hsz := hbel.size
          go_wp2_with (at_builtin; refine wpList_append_lies _ rfl _ _ _ rfl w.heap.size 5 ti _ 1 1 Tryz.underlying40 HI.out hz0 hz1 hz2 rfl (by omega) (.slice av ys.length cv) ys.length (ys.map (Value.int .u8)) rfl (by exact row_later hrow.out (bnew _ _)) ⟨wr.heap.size, 0, none⟩ 1 1 [.int .u8 (X % 256)] rfl rfl (by exact World.news_of_block (heap_alloc_new _ _)) (by simp [Value.oneCell']) (by omega) (by simp [maxLen]; omega) (by omega) (by simp; omega) (wr.heap.size + 1) (by simp) ?_; intro g5 cap5 w5 hown5 hgrow5 hat5 hlt5)
          have hB5 : Below w.heap.size w w5 := (bto hbel (bnew _ _)).grown hgrow5 (by simp; omega) (fun q hq => by
            rcases hrow.out.2 with ⟨he, _⟩ | ⟨g, cap, cur, he, hB, _⟩
            · rw [he] at hq; simp [Value.ownBlock] at hq
            · rw [he] at hq; simp [Value.ownBlock] at hq; omega)
          have hxs : ys.map (Value.int .u8) ++ [Value.int .u8 (X % 256)] = (ys ++ [X % 256]).map (Value.int .u8) := by simp
          have hle : (ys ++ [X % 256]).length = ys.length + 1 := by simp
          rw [hxs, ← hle] at hown5
          refine ⟨⟨j, ys ++ [X % 256], some ⟨g5, 0, none⟩, cap5, by rw [hle]; omega, ?_, rfl, by rw [hle], hown5, hB5⟩, by simp [intOf]⟩
          show _ = _
          rw [← hnum.out, numI, hX.out]
          simp
    · have e : m = 0 := by omega
      subst e
      have hcv := conv_row hrow.out
      go_wp2
      go_ret
      refine ⟨congrArg (fun x => Ending.returned (.string x)) ?_, hbel⟩
      rw [numS, ← hnum.out, numI, List.append_nil]
end Go.Proofs.YtndaihhjhllfcadGreatDoor

namespace Go.Proofs.YtndaihhjhllfcadGreatDoor
open Go.RowKit

/-- The lowest n bytes of a natural number, the highest first. -/
def numN (v : Nat) : Nat → List Nat
  | 0 => []
  | n + 1 => v / 256 ^ n % 256 :: numN v n
theorem numN_length (v : Nat) : ∀ n, (numN v n).length = n
  | 0 => rfl
  | n + 1 => by simp [numN, numN_length v n]
theorem shrN_nat (v : Nat) : ∀ k, shrN (v : Int) k = ((v / 256 ^ k : Nat) : Int)
  | 0 => by simp [shrN]
  | k + 1 => by rw [shrN, shrN_nat v k, Nat.pow_succ, ← Nat.div_div_eq_div_mul]; omega
theorem numI_nat (v : Nat) : ∀ n, numI (v : Int) n = (numN v n).map (fun x : Nat => (x : Int))
  | 0 => rfl
  | n + 1 => by rw [numI, numN, List.map_cons, numI_nat v n, shrN_nat]; simp
theorem numN_add (a b n : Nat) : ∀ m, m ≤ n → numN (a * 256 ^ n + b) m = numN b m
  | 0, _ => rfl
  | m + 1, h => by
    rw [numN, numN, numN_add a b n m (by omega)]
    congr 1
    obtain ⟨d, rfl⟩ : ∃ d, n = m + 1 + d := ⟨n - (m + 1), by omega⟩
    have e : a * 256 ^ (m + 1 + d) + b = b + 256 ^ m * (a * 256 ^ d * 256) := by rw [Nat.pow_add, Nat.pow_succ, Nat.add_comm]; congr 1; ac_rfl
    rw [e, Nat.add_mul_div_left _ _ (Nat.pow_pos (by omega))]
    omega
theorem beL_cons (c : UInt8) (l : List UInt8) : beL (c :: l) = c.toNat * 256 ^ l.length + beL l := by
  have hg : ∀ (l : List UInt8) (v : Nat), l.foldl (fun v c => v * 256 + c.toNat) v = v * 256 ^ l.length + beL l := fun l => by
    induction l with
    | nil => intro v; simp [beL]
    | cons d l ih =>
      intro v
      have h1 := ih (v * 256 + d.toNat)
      have h2 := ih (0 * 256 + d.toNat)
      simp only [beL, List.foldl_cons, List.length_cons, Nat.pow_succ] at h1 h2 ⊢
      rw [h1, h2]
      simp only [Nat.add_mul, Nat.zero_mul, Nat.zero_add]
      rw [Nat.add_assoc]
      congr 1
      ac_rfl
  have := hg l (0 * 256 + c.toNat)
  simpa [beL] using this
/-- What was read off bytes is written as these bytes. -/
theorem numN_be : ∀ (l : List UInt8), numN (beL l) l.length = l.map (fun c => c.toNat)
  | [] => rfl
  | c :: l => by
    have hb := beL_lt l
    have hc := c.toNat_lt
    rw [List.length_cons, numN, beL_cons, numN_add _ _ _ _ (Nat.le_refl _), numN_be l, List.map_cons]
    congr 1
    rw [Nat.add_comm, Nat.mul_comm, Nat.add_mul_div_left _ _ (Nat.pow_pos (by omega)), Nat.div_eq_of_lt hb]
    omega
theorem numS_be (l : List UInt8) (n : Nat) (h : l.length = n) : numS n (beL l : Nat) = ⟨l.toArray⟩ := by
  subst h
  rw [numS, numI_nat, numN_be, strOfNums]
  congr 2
  rw [List.map_map, List.map_map]
  conv => rhs; rw [← List.map_id l]
  congr 1
  funext c
  simp
theorem be_numN (v : Nat) : ∀ n, beL ((numN v n).map UInt8.ofNat) = v % 256 ^ n
  | 0 => by simp [numN, beL, Nat.mod_one]
  | n + 1 => by
    rw [numN, List.map_cons, beL_cons, be_numN v n, List.length_map, numN_length, UInt8.toNat_ofNat_of_lt' (by show _ < 256; omega), Nat.pow_succ, Nat.mod_mul]
    rw [Nat.mul_comm, Nat.add_comm]
theorem numS_data (n v : Nat) : (numS n v).data.toList = (numN v n).map UInt8.ofNat := by
  rw [numS, numI_nat, strOfNums_data, List.map_map]
  congr 1
/-- What was written is read back. -/
theorem be_numS (n v : Nat) (h : v < 256 ^ n) : beL (numS n v).data.toList = v := by
  rw [numS_data, be_numN, Nat.mod_eq_of_lt h]
end Go.Proofs.YtndaihhjhllfcadGreatDoor

namespace Go.Proofs.YtndaihhjhllfcadGreatDoor
open Go.RowKit

theorem bytes_ext {a b : ByteArray} (h : a.data.toList = b.data.toList) : a = b := by
  obtain ⟨⟨l⟩⟩ := a
  obtain ⟨⟨m⟩⟩ := b
  simp only at h
  rw [h]
theorem bytes_append (a b : ByteArray) : (a ++ b).data.toList = a.data.toList ++ b.data.toList := by simp
theorem bytes_part (d : ByteArray) (p n : Nat) : (d.extract p (p + n)).data.toList = sectL d p n := by
  simp [sectL, ByteArray.data_extract, Array.toList_extract]
theorem bytes_size (d : ByteArray) : d.data.toList.length = d.size := by simp

def frameS (p : ByteArray) : ByteArray := if 1 ≤ p.size ∧ p.size ≤ 60000 then numS 4 p.size ++ numS 4 (crcV p : Nat) ++ p else ByteArray.empty
/-- The length that the head of d tells. -/
def headN (d : ByteArray) : Nat := beL (sectL d 0 4)
def firstS (d : ByteArray) : ByteArray :=
  if d.size < 8 then ByteArray.empty
  else if d.size - 8 < headN d then ByteArray.empty
  else if frameS (d.extract 8 (8 + headN d)) = ByteArray.empty ∨ frameS (d.extract 8 (8 + headN d)) ≠ d.extract 0 (8 + headN d) then ByteArray.empty
  else d.extract 8 (8 + headN d)
/-- A frame begins d. -/
def FrameAt (d : ByteArray) : Prop := 8 ≤ d.size ∧ 1 ≤ headN d ∧ headN d ≤ 60000 ∧ headN d ≤ d.size - 8 ∧ beL (sectL d 4 4) = crcV (d.extract 8 (8 + headN d))
instance (d : ByteArray) : Decidable (FrameAt d) := by unfold FrameAt; infer_instance

theorem part_size {d : ByteArray} {p n : Nat} (h : p + n ≤ d.size) : (d.extract p (p + n)).size = n := by rw [ByteArray.size_extract]; omega

theorem frameS_size {p : ByteArray} (h : 1 ≤ p.size ∧ p.size ≤ 60000) : (frameS p).size = 8 + p.size := by
  rw [frameS, if_pos h, ByteArray.size_append, ByteArray.size_append, numS_size, numS_size]

theorem frame_is {d : ByteArray} (h8 : 8 ≤ d.size) (h1 : 1 ≤ headN d) (h2 : headN d ≤ 60000) (h3 : headN d ≤ d.size - 8) :
    frameS (d.extract 8 (8 + headN d)) = d.extract 0 (8 + headN d) ↔ beL (sectL d 4 4) = crcV (d.extract 8 (8 + headN d)) := by
  have hz : (d.extract 8 (8 + headN d)).size = headN d := part_size (by omega)
  have hw : (d.extract 0 (8 + headN d)).data.toList = sectL d 0 4 ++ sectL d 4 4 ++ (d.extract 8 (8 + headN d)).data.toList := by
    have e0 := bytes_part d 0 (8 + headN d)
    rw [Nat.zero_add] at e0
    rw [e0, bytes_part]
    simp only [sectL, List.drop_zero]
    have hl := bytes_size d
    rw [show 8 + headN d = 4 + (4 + headN d) by omega, List.take_add, List.take_add, List.drop_drop]
    simp
  have hn : numS 4 (headN d : Nat) = ⟨(sectL d 0 4).toArray⟩ := numS_be _ 4 (sectL_length (by omega))
  rw [frameS, if_pos (by rw [hz]; exact ⟨h1, h2⟩), hz, hn]
  constructor
  · intro h
    have h' := congrArg (fun x : ByteArray => x.data.toList) h
    simp only [bytes_append] at h'
    rw [hw, List.append_left_inj, List.append_right_inj] at h'
    rw [← h', be_numS 4 _ (by have := crcV_lt (d.extract 8 (8 + headN d)); omega)]
  · intro h
    apply bytes_ext
    rw [bytes_append, bytes_append, hw, ← h, numS_be _ 4 (sectL_length (by omega))]

theorem firstS_eq (d : ByteArray) : firstS d = if FrameAt d then d.extract 8 (8 + headN d) else ByteArray.empty := by
  unfold firstS
  by_cases h8 : d.size < 8
  · rw [if_pos h8, if_neg (fun h => by have := h.1; omega)]
  · rw [if_neg h8]
    by_cases h3 : d.size - 8 < headN d
    · rw [if_pos h3, if_neg (fun h => by have := h.2.2.2.1; omega)]
    · rw [if_neg h3]
      have hz : (d.extract 8 (8 + headN d)).size = headN d := part_size (by omega)
      by_cases h1 : 1 ≤ headN d ∧ headN d ≤ 60000
      · have hne : frameS (d.extract 8 (8 + headN d)) ≠ ByteArray.empty := by
          intro e
          have := frameS_size (p := d.extract 8 (8 + headN d)) (by rw [hz]; exact h1)
          rw [e, ByteArray.size_empty] at this
          omega
        by_cases hc : beL (sectL d 4 4) = crcV (d.extract 8 (8 + headN d))
        · have hf := (frame_is (by omega) h1.1 h1.2 (by omega)).2 hc
          rw [if_neg (by intro h; rcases h with h | h; exact hne h; exact h hf), if_pos ⟨by omega, h1.1, h1.2, by omega, hc⟩]
        · have hf : ¬ frameS (d.extract 8 (8 + headN d)) = d.extract 0 (8 + headN d) := fun h => hc ((frame_is (by omega) h1.1 h1.2 (by omega)).1 h)
          rw [if_pos (Or.inr hf), if_neg (fun h => hc h.2.2.2.2)]
      · have he : frameS (d.extract 8 (8 + headN d)) = ByteArray.empty := by rw [frameS, if_neg (by rw [hz]; exact h1)]
        rw [if_pos (Or.inl he), if_neg (fun h => h1 ⟨h.2.1, h.2.2.1⟩)]

/-- The payloads from place p on, and where they end. -/
def scanR (d : ByteArray) : Nat → Nat → List ByteArray × Nat
  | 0, p => ([], p)
  | n + 1, p => if FrameAt (d.extract p d.size) then
      let q := (d.extract p d.size).extract 8 (8 + headN (d.extract p d.size))
      (q :: (scanR d n (p + 8 + q.size)).1, (scanR d n (p + 8 + q.size)).2) else ([], p)
def scanV (d : ByteArray) : List ByteArray × Nat := scanR d (d.size + 1) 0
end Go.Proofs.YtndaihhjhllfcadGreatDoor

namespace Go.Proofs.YtndaihhjhllfcadGreatDoor
open Go.RowKit

/-- The last i digits of n. -/
def segD (n : Nat) : Nat → List UInt8
  | 0 => []
  | i + 1 => (48 + UInt8.ofNat (n / 10 ^ i % 10)) :: segD n i
def segN (n : Nat) : ByteArray := ⟨(119 :: 97 :: 108 :: 45 :: segD n 6).toArray⟩
def segS (n : Int) : ByteArray := if 1 ≤ n ∧ n ≤ 999999 then segN n.toNat else ByteArray.empty
theorem segD_length (n : Nat) : ∀ i, (segD n i).length = i
  | 0 => rfl
  | i + 1 => by simp [segD, segD_length n i]
theorem segS_size (n : Int) : (segS n).size ≤ 10 := by
  unfold segS
  split
  · show (119 :: 97 :: 108 :: 45 :: segD n.toNat 6).toArray.size ≤ 10
    simp [segD_length]
  · simp
theorem dig_ofNat (k : Nat) : UInt8.ofNat (48 + k) = 48 + UInt8.ofNat k := by rw [UInt8.ofNat_add]; rfl
theorem itoa_seg (n : Nat) (h : n < 1000000) : Lib.itoa ((1000000 + n : Nat) : Int) = 49 :: segD n 6 := by
  have h7 : Lib.nDigits (1000000 + n) = 7 := Lib.nDigits_unique 6 _ (by omega) (by omega)
  rw [Lib.itoa, if_neg (by omega), Int.toNat_natCast, Lib.decDigits_eq, h7]
  simp only [List.range_succ, List.range_zero, List.map_cons, List.map_nil, List.nil_append, List.cons_append, segD, Lib.dg, dig_ofNat]
  congr 1
  · rw [show (1000000 + n) / 10 ^ (7 - 1 - 0) % 10 = 1 by omega]; rfl
  · simp only [List.cons.injEq, and_true]
    refine ⟨?_, ?_, ?_, ?_, ?_, ?_⟩ <;> congr 2 <;> omega
end Go.Proofs.YtndaihhjhllfcadGreatDoor

