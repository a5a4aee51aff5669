import Derived.Test.YtboofidegpnkaaaGreatDoorProg
import Derived.Test.YtboofidegpnkaaaGreatDoorJ09Dv
import Derived.Test.YtboofidegpnkaaaGreatDoorJ12Step2
import Derived.Test.YtboofidegpnkaaaGreatDoorJ15SDo2
import Derived.Lib.AppendZeros
namespace Go.Proofs.YtboofidegpnkaaaGreatDoor
open Go.RowKit
theorem l1FileName_is {s : ByteArray} {b : Bool} (h : nameB s = b) (w : World) (hs : s.size ≤ maxLen) : Calls Tryz.prog 34 #[.string s] w fun e w' => e = .returned (.bool b) ∧ w' = w := h ▸ l1FileName_any s w hs
set_option maxHeartbeats 4000000 in
theorem specValid_any (a : Option Addr) (cap : Nat) (fs : List FileD) (c k0 cr fl : Int) (dn : Bool) (w : World) (hf : FilesIn w a fs) (hs : Short fs) (hlen : fs.length ≤ maxLen) (hsum : sumLen fs ≤ 1000000000) :
    Calls Tryz.prog 33 #[.agg #[.slice a fs.length cap, .int .i64 c, .int .i64 k0, .int .i64 cr, .int .i64 fl, .bool dn]] w fun e w' => e = .returned (.bool (diskB fs c k0 cr fl)) ∧ Below w.heap.size w w' := by
  obtain ⟨z0, z1, z2, z3, z4, z5⟩ := box_cells w (.slice a fs.length cap) (.int .i64 c) (.int .i64 k0) (.int .i64 cr) (.int .i64 fl) (.bool dn) 30
  have d0 := Later.cells z0
  have d1 := Later.cells z1
  have d2 := Later.cells z2
  have d3 := Later.cells z3
  have d4 := Later.cells z4
  have d5 := Later.cells z5
  have hb0 : Below w.heap.size w (w.alloc (.cells #[.slice a fs.length cap, .int .i64 c, .int .i64 k0, .int .i64 cr, .int .i64 fl, .bool dn] 30)) := (Below.refl _ _).alloc (Nat.le_refl _) _
  have hne := Later.there (w.alloc (.cells #[.slice a fs.length cap, .int .i64 c, .int .i64 k0, .int .i64 cr, .int .i64 fl, .bool dn] 30))
  have HFx : Hid (∀ x : Later (w.alloc (.cells #[.slice a fs.length cap, .int .i64 c, .int .i64 k0, .int .i64 cr, .int .i64 fl, .bool dn] 30)), FilesIn x.w' a fs) := fun x => (hf.later hb0).later x.h
  have HB : Hid (∀ x : Later (w.alloc (.cells #[.slice a fs.length cap, .int .i64 c, .int .i64 k0, .int .i64 cr, .int .i64 fl, .bool dn] 30)), Below w.heap.size w x.w') := fun x => hb0.trans (x.h.mono hb0.size)
  have HS : Hid (Short fs) := hs
  have HL : Hid (fs.length ≤ maxLen) := hlen
  unfold maxLen at hlen
  clear z0 z1 z2 z3 z4 z5 hb0 hf hs
  by_cases hA0 : (1000 : Int) < fs.length
  · have E : Hid (diskB fs c k0 cr fl = false) := by
      show _ = _
      have e : decide (fs.length ≤ 1000) = false := by simp; omega
      simp only [diskB, e, Bool.false_and]
    go_enter Tryz.func33, Tryz.ntmps33
    go_wp2_with fail
    refine wp_region_later (by kernel_rfl) (by kernel_rfl) ?_
    repeat (go_big_quiet_step (fail))
    refine wpQuiet_nil ?_
    rintro _ ⟨x, rfl⟩
    go_wp2
    go_ret
    exact ⟨ret_bool E.out.symm, HB.out x⟩
  have hA1 : decide ((1000 : Int) < fs.length) = false := by simp; omega
  have hA2 : decide (1000 < fs.length) = false := by simp; omega
  have qA : decide (fs.length ≤ 1000) = true := by simp; omega
  by_cases hB0 : btwB c 0 1000000000 = false
  · have E : Hid (diskB fs c k0 cr fl = false) := by show _ = _; simp only [diskB, hB0, Bool.and_false, Bool.false_and]
    have HB1 : Hid (btwB c 0 1000000000 = false) := hB0
    clear hB0 qA
    go_enter Tryz.func33, Tryz.ntmps33
    go_wp2_with fail
    refine wp_region_later (by kernel_rfl) (by kernel_rfl) ?_
    repeat (go_big_quiet_step (first | (go_at_call 16; apply calls_later_same; apply between_is; exact HB1.out)))
    refine wpQuiet_nil ?_
    rintro _ ⟨x, rfl⟩
    go_wp2
    go_ret
    exact ⟨ret_bool E.out.symm, HB.out x⟩
  have qB : btwB c 0 1000000000 = true := by simpa using hB0
  have HB1 : Hid (btwB c 0 1000000000 = true) := qB
  clear hB0
  by_cases hC0 : c < (sumLen fs : Int)
  · have E : Hid (diskB fs c k0 cr fl = false) := by
      show _ = _
      have e : decide ((sumLen fs : Int) ≤ c) = false := by simp; omega
      simp only [diskB, e, Bool.and_false, Bool.false_and]
    clear qA qB
    go_enter Tryz.func33, Tryz.ntmps33
    go_wp2_with fail
    refine wp_region_later (by kernel_rfl) (by kernel_rfl) ?_
    repeat (go_big_quiet_step (first | (go_at_call 16; apply calls_later_same; apply between_is; exact HB1.out) | (go_at_call 52; exact calls_later (l1Bytes_any _ _ _ _ _ _ _ _ _ (HFx.out _) HL.out hsum))))
    refine wpQuiet_nil ?_
    rintro _ ⟨x, rfl⟩
    go_wp2
    go_ret
    exact ⟨ret_bool E.out.symm, HB.out x⟩
  have hC1 : decide (c < (sumLen fs : Int)) = false := by simp; omega
  have qC : decide ((sumLen fs : Int) ≤ c) = true := by simp; omega
  have E : Hid (diskB fs c k0 cr fl = (filesB fs && btwB k0 0 1000000000000000 && btwB cr 0 1000000000000000 && btwB fl 0 1000000000000000)) := by show _ = _; simp only [diskB, qA, qB, qC, Bool.true_and, Bool.and_true]
  clear qA qB qC
  go_enter Tryz.func33, Tryz.ntmps33
  go_wp2_with fail
  refine wp_region_later (by kernel_rfl) (by kernel_rfl) ?_
  repeat (go_big_quiet_step (first | (go_at_call 16; apply calls_later_same; apply between_is; exact HB1.out) | (go_at_call 52; exact calls_later (l1Bytes_any _ _ _ _ _ _ _ _ _ (HFx.out _) HL.out hsum))))
  refine wpQuiet_nil ?_
  rintro _ ⟨x, rfl⟩
  have HF : Hid (FilesIn x.w' a fs) := HFx.out x
  have HBx : Hid (Below w.heap.size w x.w') := HB.out x
  have hbox : w.heap.size < x.w'.heap.size := by have := x.h.size; simp at this; omega
  have e0 := d0 x
  have e1 := d1 x
  have e2 := d2 x
  have e3 := d3 x
  have e4 := d4 x
  clear d0 d1 d2 d3 d4 d5 HFx HB hne HB1
  generalize x.w' = W at *
  clear x
  have HC : Hid (∀ wr, Below W.heap.size W wr → wr.cell? ⟨w.heap.size, 0, none⟩ = some (.slice a fs.length cap) ∧ wr.cell? ⟨w.heap.size, 2, none⟩ = some (.int .i64 k0) ∧
      wr.cell? ⟨w.heap.size, 3, none⟩ = some (.int .i64 cr) ∧ wr.cell? ⟨w.heap.size, 4, none⟩ = some (.int .i64 fl)) := fun wr h =>
    ⟨(h.cell hbox).trans e0, (h.cell hbox).trans e2, (h.cell hbox).trans e3, (h.cell hbox).trans e4⟩
  go_wp2
  go_loopw [3, 4, 25] (fun _ _ i wr => ∃ k : Nat, k ≤ fs.length ∧ i = .int .i64 k ∧ okTo fs k = true ∧ Below W.heap.size W wr) (fun _ _ i _ => fs.length - (intOf i).toNat)
  case atStart => exact ⟨0, Nat.zero_le _, rfl, rfl, Below.refl _ _⟩
  case round =>
    obtain ⟨k, hk, rfl, hok, hbel⟩ := hrel
    obtain ⟨e0', e2', e3', e4'⟩ := HC.out wr hbel
    have HOK : Hid (okTo fs k = true) := hok
    have HBw : Hid (Below w.heap.size w wr) := HBx.out.trans (hbel.mono (Nat.le_of_lt hbox))
    have HSZ : w.heap.size < wr.heap.size := by have := hbel.size; omega
    have hsz2 : ¬ w.heap.size = wr.heap.size := by omega
    clear hok e0 e1 e2 e3 e4 HBx HC
    by_cases hlt : k < fs.length
    · obtain ⟨b, o, rfl, hb, c0, c1, c2⟩ := (HF.out.later hbel).at hlt
      have hsh := (HS.out k hlt).1
      have hsd := (HS.out k hlt).2
      have HSH : Hid (fs[k].name.size ≤ maxLen) := hsh
      unfold maxLen at hsd
      clear hsh
      by_cases hn : nameB fs[k].name = false
      · have hat : okAt fs k = false := by simp [okAt, List.getElem?_eq_getElem hlt, fileB, hn]
        have HT : Hid (okTo fs fs.length = false) := okTo_not hat hlt
        have HN : Hid (nameB fs[k].name = false) := hn
        clear hat hn
        go_wp2_with (first | (go_at_call 34; refine (l1FileName_is HN.out _ HSH.out).mono ?_; rintro e w' ⟨rfl, rfl⟩))
        go_ret
        exact ⟨ret_bool (by rw [E.out, filesB, HT.out]; simp), HBw.out.alloc (Nat.le_of_lt HSZ) _⟩
      · have hn' : nameB fs[k].name = true := by simpa using hn
        have HN : Hid (nameB fs[k].name = true) := hn'
        by_cases hs2 : btwB fs[k].synced 0 fs[k].data.size = false
        · have hat : okAt fs k = false := by simp [okAt, List.getElem?_eq_getElem hlt, fileB, hs2]
          have HT : Hid (okTo fs fs.length = false) := okTo_not hat hlt
          have HN2 : Hid (btwB fs[k].synced 0 fs[k].data.size = false) := hs2
          clear hat hn hn' hs2
          go_wp2_with (first | (go_at_call 34; refine (l1FileName_is HN.out _ HSH.out).mono ?_; rintro e w' ⟨rfl, rfl⟩) | (go_at_call 16; refine (between_is HN2.out _).mono ?_; rintro e w' ⟨rfl, rfl⟩))
          go_ret
          exact ⟨ret_bool (by rw [E.out, filesB, HT.out]; simp), HBw.out.alloc (Nat.le_of_lt HSZ) _⟩
        · have hs2' : btwB fs[k].synced 0 fs[k].data.size = true := by simpa using hs2
          have HN2 : Hid (btwB fs[k].synced 0 fs[k].data.size = true) := hs2'
          have hfb : fileB fs[k] = true := by simp [fileB, hn', hs2']
          clear hn hn' hs2 hs2'
          by_cases hk0 : (0 : Int) < k
          · obtain ⟨b2, o2, e2, q1, c0', q2, q3⟩ := (HF.out.later hbel).at (i := k - 1) (by omega)
            simp only [Option.some.injEq, Addr.mk.injEq, and_true] at e2
            obtain ⟨rfl, rfl⟩ := e2
            have hat : okAt fs k = Op.bytesLess fs[k - 1].name.toList fs[k].name.toList := by
              obtain ⟨j, rfl⟩ : ∃ j, k = j + 1 := ⟨k - 1, by omega⟩
              simp [okAt, List.getElem?_eq_getElem hlt, List.getElem?_eq_getElem (show j < fs.length by omega), hfb]
            generalize fs[k - 1].name = gn at c0' hat
            have hk1 : 0 < k := by omega
            have hb3 : ¬ b = wr.heap.size := by omega
            clear q1 q2 q3 hfb
            by_cases hl : Op.bytesLess gn.toList fs[k].name.toList = true
            · have HT : Hid (okTo fs (k + 1) = true) := by show okTo fs (k + 1) = true; rw [okTo_succ, HOK.out, hat, hl]; rfl
              clear hat
              go_wp2_with (first | (go_at_call 34; refine (l1FileName_is HN.out _ HSH.out).mono ?_; rintro e w' ⟨rfl, rfl⟩) | (go_at_call 16; refine (between_is HN2.out _).mono ?_; rintro e w' ⟨rfl, rfl⟩))
              go_quiet (fail)
              go_wp2
              exact ⟨⟨k + 1, by omega, by go_num, HT.out, below_drewN (hbel.alloc hbel.size _) _⟩, by simp [intOf]; omega⟩
            · have hl' : Op.bytesLess gn.toList fs[k].name.toList = false := by simpa using hl
              have HT : Hid (okTo fs fs.length = false) := okTo_not (by rw [hat]; exact hl') hlt
              clear hat hl
              go_wp2_with (first | (go_at_call 34; refine (l1FileName_is HN.out _ HSH.out).mono ?_; rintro e w' ⟨rfl, rfl⟩) | (go_at_call 16; refine (between_is HN2.out _).mono ?_; rintro e w' ⟨rfl, rfl⟩))
              go_quiet (fail)
              go_wp2
              go_ret
              exact ⟨ret_bool (by rw [E.out, filesB, HT.out]; simp), below_drewN (HBw.out.alloc (Nat.le_of_lt HSZ) _) _⟩
          · have hat : okAt fs k = true := by
              obtain rfl : k = 0 := by omega
              simp [okAt, List.getElem?_eq_getElem hlt, hfb]
            have HT : Hid (okTo fs (k + 1) = true) := by show okTo fs (k + 1) = true; rw [okTo_succ, HOK.out, hat]; rfl
            have hk1 : decide (0 < k) = false := by simp; omega
            clear hat hfb
            go_wp2_with (first | (go_at_call 34; refine (l1FileName_is HN.out _ HSH.out).mono ?_; rintro e w' ⟨rfl, rfl⟩) | (go_at_call 16; refine (between_is HN2.out _).mono ?_; rintro e w' ⟨rfl, rfl⟩))
            go_quiet (fail)
            go_wp2
            exact ⟨⟨k + 1, by omega, by go_num, HT.out, below_drewN (hbel.alloc hbel.size _) _⟩, by simp [intOf]; omega⟩
    · have ek : k = fs.length := by omega
      have E2 : Hid (diskB fs c k0 cr fl = (btwB k0 0 1000000000000000 && btwB cr 0 1000000000000000 && btwB fl 0 1000000000000000)) := by
        show _ = _
        have := HOK.out
        rw [ek] at this
        rw [E.out, filesB, this, Bool.true_and]
      by_cases h1 : btwB k0 0 1000000000000000 = false
      · have H1 : Hid (btwB k0 0 1000000000000000 = false) := h1
        clear h1
        go_wp2_with (first | (go_at_call 16; refine (between_is H1.out _).mono ?_; rintro e w' ⟨rfl, rfl⟩))
        go_ret
        exact ⟨ret_bool (by rw [E2.out, H1.out]; rfl), HBw.out⟩
      have H1 : Hid (btwB k0 0 1000000000000000 = true) := by show _ = _; simpa using h1
      clear h1
      by_cases h2 : btwB cr 0 1000000000000000 = false
      · have H2 : Hid (btwB cr 0 1000000000000000 = false) := h2
        clear h2
        go_wp2_with fail
        refine (between_is H1.out _).mono ?_
        rintro e w' ⟨rfl, rfl⟩
        go_wp2_with fail
        refine (between_is H2.out _).mono ?_
        rintro e w' ⟨rfl, rfl⟩
        go_wp2
        go_ret
        exact ⟨ret_bool (by rw [E2.out, H1.out, H2.out]; rfl), HBw.out⟩
      have H2 : Hid (btwB cr 0 1000000000000000 = true) := by show _ = _; simpa using h2
      clear h2
      go_wp2_with fail
      refine (between_is H1.out _).mono ?_
      rintro e w' ⟨rfl, rfl⟩
      go_wp2_with fail
      refine (between_is H2.out _).mono ?_
      rintro e w' ⟨rfl, rfl⟩
      go_wp2_with fail
      refine (between_any _ _ _ _).mono ?_
      rintro e w' ⟨rfl, rfl⟩
      go_wp2
      go_ret
      exact ⟨ret_bool (by rw [E2.out, H1.out, H2.out]; rfl), HBw.out⟩
end Go.Proofs.YtboofidegpnkaaaGreatDoor
namespace Go.Proofs.YtboofidegpnkaaaGreatDoor
open Go.RowKit
theorem implValid_is {a : Option Addr} {cap : Nat} {fs : List FileD} {c k cr fl : Int} {dn b : Bool} (h : diskB fs c k cr fl = b) (w : World) (hf : FilesIn w a fs) (hs : Short fs) (hlen : fs.length ≤ maxLen) (hsum : sumLen fs ≤ 1000000000) :
    Calls Tryz.prog 24 #[.agg #[.slice a fs.length cap, .int .i64 c, .int .i64 k, .int .i64 cr, .int .i64 fl, .bool dn]] w fun e w' => e = .returned (.bool b) ∧ Below w.heap.size w w' := h ▸ implValid_any a cap fs c k cr fl dn w hf hs hlen hsum
theorem specValid_is {a : Option Addr} {cap : Nat} {fs : List FileD} {c k cr fl : Int} {dn b : Bool} (h : diskB fs c k cr fl = b) (w : World) (hf : FilesIn w a fs) (hs : Short fs) (hlen : fs.length ≤ maxLen) (hsum : sumLen fs ≤ 1000000000) :
    Calls Tryz.prog 33 #[.agg #[.slice a fs.length cap, .int .i64 c, .int .i64 k, .int .i64 cr, .int .i64 fl, .bool dn]] w fun e w' => e = .returned (.bool b) ∧ Below w.heap.size w w' := h ▸ specValid_any a cap fs c k cr fl dn w hf hs hlen hsum
theorem files_of_disk {fs : List FileD} {c k cr fl : Int} (h : diskB fs c k cr fl = true) : filesB fs = true ∧ fs.length ≤ 1000 ∧ 0 ≤ c ∧ c ≤ 1000000000 ∧ (sumLen fs : Int) ≤ c ∧ 0 ≤ k ∧ k ≤ 1000000000000000 ∧ 0 ≤ cr ∧ cr ≤ 1000000000000000 ∧ 0 ≤ fl ∧ fl ≤ 1000000000000000 := by
  simp only [diskB, btwB, Bool.and_eq_true, decide_eq_true_eq] at h
  obtain ⟨⟨⟨⟨⟨⟨h1, h2⟩, h3, h4⟩, h5⟩, h6, h7⟩, h8, h9⟩, h10, h11⟩ := h
  exact ⟨h2, h1, h3, h4, h5, h6, h7, h8, h9, h10, h11⟩
end Go.Proofs.YtboofidegpnkaaaGreatDoor
namespace Go.Proofs.YtboofidegpnkaaaGreatDoor
open Go.RowKit
theorem stepR_code (fs : List FileD) (c k cr fl : Int) (dn : Bool) (op : OpD) : (stepR fs c k cr fl dn op).1 ≤ 6 := by
  unfold stepR
  split
  · show (doR fs c op).1 ≤ 6
    unfold doR
    simp only
    repeat' split
    all_goals simp
  · rcases charge_cases k cr fl dn with h | h | h <;> simp [h]
theorem Owned.set_below {w : World} {B : Nat} {a : Option Addr} {fs : List FileD} (h : Owned w B a fs) {p : Addr} (hp : p.block < B) (v : Value) : Owned (w.setCell p v) B a fs := by
  rcases h with h | ⟨g, o, cur, t, rfl, hB, hg, h⟩
  · exact Or.inl h
  · have hb := Below.heap_setCell w p v g (by omega)
    have hk : ∀ j, (w.setCell p v).cell? ⟨g, j, none⟩ = w.cell? ⟨g, j, none⟩ := fun j => World.cell?_of_block hb
    exact Or.inr ⟨g, o, cur, t, rfl, hB, hb.trans hg, fun i hi => by simp only [hk]; exact h i hi⟩
theorem three_boxes {w w1 : World} {x y z : Array Value} {tx ty tz : TypeId} (hb : Below (((w.alloc (.cells x tx)).alloc (.cells y ty)).alloc (.cells z tz)).heap.size (((w.alloc (.cells x tx)).alloc (.cells y ty)).alloc (.cells z tz)) w1) :
    Blk w1 w.heap.size x tx ∧ Blk w1 (w.heap.size + 1) y ty ∧ Blk w1 (w.heap.size + 1 + 1) z tz ∧ Below w.heap.size w w1 := by
  refine ⟨?_, ?_, ?_, bto (bto (bto (bnew _ _) (bnew _ _)) (bnew _ _)) hb⟩
  · exact (Blk.later (Blk.later (Blk.later (g := w.heap.size) (heap_alloc_new w (.cells x tx)) (Below.refl _ _)) (bnew _ _)) (bnew _ _)).later hb
  · have h := Blk.later (g := (w.alloc (.cells x tx)).heap.size) (heap_alloc_new (w.alloc (.cells x tx)) (.cells y ty)) (bto (bnew _ _) hb)
    simpa using h
  · have h := Blk.later (g := ((w.alloc (.cells x tx)).alloc (.cells y ty)).heap.size) (heap_alloc_new ((w.alloc (.cells x tx)).alloc (.cells y ty)) (.cells z tz)) hb
    simpa using h
def outR (fs : List FileD) (c k cr fl : Int) (dn : Bool) (op : OpD) : Nat × List FileD × Int × Int × Int × Int × Bool :=
  if (diskB fs c k cr fl && opB op) = true then ((stepR fs c k cr fl dn op).1, (stepR fs c k cr fl dn op).2.1, c, (stepR fs c k cr fl dn op).2.2.1, cr, fl, (stepR fs c k cr fl dn op).2.2.2) else (6, [], 0, 0, 0, 0, false)
def outV (R : Nat × List FileD × Int × Int × Int × Int × Bool) (a : Option Addr) (cap : Nat) : Value :=
  .tuple #[.agg #[.slice a R.2.1.length cap, .int .i64 R.2.2.1, .int .i64 R.2.2.2.1, .int .i64 R.2.2.2.2.1, .int .i64 R.2.2.2.2.2.1, .bool R.2.2.2.2.2.2], .int .i64 R.1]
end Go.Proofs.YtboofidegpnkaaaGreatDoor
namespace Go.Proofs.YtboofidegpnkaaaGreatDoor
open Go.RowKit
theorem copy_run (W : World) (a : Option Addr) (cap : Nat) (fs : List FileD) (hf : FilesIn W a fs) (hlen : fs.length ≤ 1048576) :
    ∃ a1 cap1 w2, (Builtin.append_ #[28, 28] 28 #[.slice (some ⟨W.heap.size, 0, none⟩) 0 0, .slice a fs.length cap]).run Tryz.prog (W.alloc (.cells #[] 71)) = .ok (.slice a1 fs.length cap1) w2 ∧
      FilesIn w2 a1 fs ∧ Below W.heap.size W w2 ∧ ∀ b o, a1 = some ⟨b, o, none⟩ → W.heap.size ≤ b := by
  obtain ⟨i, hi, hz0, hz1, hz2⟩ := info_filex
  cases a with
  | none =>
    have h0 : fs = [] := by
      rcases hf with h | ⟨b, o, e, _⟩
      · exact h
      · exact absurd e (by simp)
    subst h0
    refine ⟨some ⟨W.heap.size, 0, none⟩, 0, W.alloc (.cells #[] 71), ?_, Or.inl rfl, bnew _ _, fun b o e => by simp at e; omega⟩
    simp [Builtin.append_, run_underlying Tryz.underlying28, sizeOf, typeInfo, hi, Builtin.lenOf, Builtin.firstCells, storeCells]
  | some ad =>
    have hown : (W.alloc (.cells #[] 71)).ownsRow W.heap.size 71 3 (.slice (some ⟨W.heap.size, 0, none⟩) 0 0) 0 [] :=
      ⟨rfl, Or.inr ⟨W.heap.size, 0, #[], rfl, Nat.le_refl _, heap_alloc_new _ _, Nat.le_refl _, Nat.zero_le _, rfl, rfl⟩⟩
    have hnews : ∀ j u, (flat fs)[j]? = some u → (W.alloc (.cells #[] 71)).cell? (ad.add j) = some u := by
      rcases hf.later (bnew W (.cells #[] 71)) with rfl | ⟨b, o, e, _, h⟩
      · intro j u h; simp [flat] at h
      · simp only [Option.some.injEq] at e
        subst e
        exact cells_of_files h
    obtain ⟨v', w', hr, h2, h3, _, _⟩ := run_append_own_at (P := Tryz.prog) (W.alloc (.cells #[] 71)) W.heap.size 28 28 71 i _ 3 40 Tryz.underlying28 hi hz0 hz1 hz2 rfl (by omega) (.slice (some ⟨W.heap.size, 0, none⟩) 0 0) 0 [] hown ad fs.length cap (flat fs) (flat_length fs) hnews (flat_one_cell fs) (by simp [maxLen]; omega) (by omega) (by simp)
    simp only [Nat.zero_add, List.nil_append] at h2
    obtain ⟨a1, cap1, rfl, ho⟩ := owned_of_row h2
    refine ⟨a1, cap1, w', hr, ho.files, (bnew _ _).grown h3 (by simp) (fun k hk => ?_), fun b o e => row_from h2 b (by rw [e]; rfl)⟩
    simp [Value.ownBlock] at hk
    omega
def Specs (w : World) (a : Option Addr) (cap : Nat) (fs : List FileD) (c k cr fl : Int) (dn : Bool) (op : OpD) : Prop :=
  Calls Tryz.prog 17 #[.agg #[.slice a fs.length cap, .int .i64 c, .int .i64 k, .int .i64 cr, .int .i64 fl, .bool dn], .agg #[.int .i64 op.kind, .string op.name, .string op.to, .string op.data, .int .i64 op.size]] w fun e w' =>
    ∃ a' cap', e = .returned (outV (outR fs c k cr fl dn op) a' cap') ∧ FilesIn w' a' (outR fs c k cr fl dn op).2.1 ∧ Below w.heap.size w w'
structure Given (w : World) (a : Option Addr) (fs : List FileD) (op : OpD) : Prop where
  files : FilesIn w a fs
  short : Short fs
  len : fs.length ≤ 1048576
  sum : sumLen fs ≤ 1000000000
  name : op.name.size ≤ maxLen
  to : op.to.size ≤ maxLen
  data : op.data.size ≤ 1048576
set_option maxRecDepth 100000 in
set_option maxHeartbeats 2000000 in
theorem sbad_disk (w : World) (a : Option Addr) (cap : Nat) (fs : List FileD) (c k cr fl : Int) (dn : Bool) (op : OpD) (h : Given w a fs op) (hq : diskB fs c k cr fl = false) : Specs w a cap fs c k cr fl dn op := by
  unfold Specs
  have HF : Hid (FilesIn w a fs) := h.files
  have hs := h.short
  have hlen := h.len
  have hsum := h.sum
  have hn := h.name
  have ht := h.to
  have hdata := h.data
  have hml : fs.length ≤ maxLen := by simp [maxLen]; omega
  have HQ : Hid (diskB fs c k cr fl = false) := hq
  have EO : Hid (outR fs c k cr fl dn op = (6, [], 0, 0, 0, 0, false)) := by show _ = _; unfold outR; rw [if_neg (by rw [hq]; simp)]
  clear h hq hn ht hdata
  go_enter Tryz.func17, Tryz.ntmps17
  go_wp2_with fail
  refine (specValid_is HQ.out _ (((HF.out.later (bnew _ _)).later (bnew _ _)).later (bnew _ _)) hs hml hsum).mono ?_
  rintro e w1 ⟨rfl, hb1⟩
  obtain ⟨hdk, hop, hR, hbel⟩ := three_boxes hb1
  have HDK : Hid (DiskAt w1 w.heap.size a fs.length cap c k cr fl dn) := hdk
  have HOP : Hid (OpAt w1 (w.heap.size + 1) op 48) := hop
  have HR : Hid (Blk w1 (w.heap.size + 1 + 1) #[.slice none 0 0, .int .i64 0, .int .i64 0, .int .i64 0, .int .i64 0, .bool false] 30) := hR
  have HB1 : Hid (Below w.heap.size w w1) := hbel
  obtain ⟨o0, o1, o2, o3, o4⟩ := HOP.out.cells
  clear hb1 hdk hop hR hbel
  clear o0 o1 o2 o3 o4
  have r0 := HR.out.cell 0
  have r1 := HR.out.cell 1
  have r2 := HR.out.cell 2
  have r3 := HR.out.cell 3
  have r4 := HR.out.cell 4
  have r5 := HR.out.cell 5
  simp only [List.getElem?_toArray, List.getElem?_cons_zero, List.getElem?_cons_succ] at r0 r1 r2 r3 r4 r5
  have q0 := HR.out.free 0
  have q1 := HR.out.free 1
  have q2 := HR.out.free 2
  have q3 := HR.out.free 3
  have q4 := HR.out.free 4
  have q5 := HR.out.free 5
  clear HDK
  go_wp2
  refine bodyPost_ret (v := .tuple #[.agg #[.slice none 0 0, .int .i64 0, .int .i64 0, .int .i64 0, .int .i64 0, .bool false], .int .i64 6]) (by simp [results, Tryz.results17, go_sem, r0, r1, r2, r3, r4, r5]) rfl ?_
  rw [EO.out]
  refine ⟨none, 0, rfl, Or.inl rfl, ?_⟩
  have h := HB1.out
  iterate 6 (refine Below.setCell ?_ (by first | (simp; done) | (simp; omega)) _)
  exact h
set_option maxRecDepth 100000 in
set_option maxHeartbeats 2000000 in
theorem sbad_kind (w : World) (a : Option Addr) (cap : Nat) (fs : List FileD) (c k cr fl : Int) (dn : Bool) (op : OpD) (h : Given w a fs op) (hq : diskB fs c k cr fl = true) (hk : btwB op.kind 1 6 = false) : Specs w a cap fs c k cr fl dn op := by
  unfold Specs
  have HF : Hid (FilesIn w a fs) := h.files
  have hs := h.short
  have hlen := h.len
  have hsum := h.sum
  have hn := h.name
  have ht := h.to
  have hdata := h.data
  have hml : fs.length ≤ maxLen := by simp [maxLen]; omega
  have HQ : Hid (diskB fs c k cr fl = true) := hq
  have HKB : Hid (btwB op.kind 1 6 = false) := hk
  have EO : Hid (outR fs c k cr fl dn op = (6, [], 0, 0, 0, 0, false)) := by show _ = _; unfold outR; rw [if_neg (by unfold opB; rw [hk]; simp)]
  clear h hq hk hn ht hdata
  go_enter Tryz.func17, Tryz.ntmps17
  go_wp2_with fail
  refine (specValid_is HQ.out _ (((HF.out.later (bnew _ _)).later (bnew _ _)).later (bnew _ _)) hs hml hsum).mono ?_
  rintro e w1 ⟨rfl, hb1⟩
  obtain ⟨hdk, hop, hR, hbel⟩ := three_boxes hb1
  have HDK : Hid (DiskAt w1 w.heap.size a fs.length cap c k cr fl dn) := hdk
  have HOP : Hid (OpAt w1 (w.heap.size + 1) op 48) := hop
  have HR : Hid (Blk w1 (w.heap.size + 1 + 1) #[.slice none 0 0, .int .i64 0, .int .i64 0, .int .i64 0, .int .i64 0, .bool false] 30) := hR
  have HB1 : Hid (Below w.heap.size w w1) := hbel
  obtain ⟨o0, o1, o2, o3, o4⟩ := HOP.out.cells
  clear hb1 hdk hop hR hbel
  go_wp2_with fail
  refine (between_is HKB.out _).mono ?_
  rintro e w2 ⟨rfl, rfl⟩
  clear o0 o1 o2 o3 o4
  have r0 := HR.out.cell 0
  have r1 := HR.out.cell 1
  have r2 := HR.out.cell 2
  have r3 := HR.out.cell 3
  have r4 := HR.out.cell 4
  have r5 := HR.out.cell 5
  simp only [List.getElem?_toArray, List.getElem?_cons_zero, List.getElem?_cons_succ] at r0 r1 r2 r3 r4 r5
  have q0 := HR.out.free 0
  have q1 := HR.out.free 1
  have q2 := HR.out.free 2
  have q3 := HR.out.free 3
  have q4 := HR.out.free 4
  have q5 := HR.out.free 5
  clear HDK
  go_wp2
  refine bodyPost_ret (v := .tuple #[.agg #[.slice none 0 0, .int .i64 0, .int .i64 0, .int .i64 0, .int .i64 0, .bool false], .int .i64 6]) (by simp [results, Tryz.results17, go_sem, r0, r1, r2, r3, r4, r5]) rfl ?_
  rw [EO.out]
  refine ⟨none, 0, rfl, Or.inl rfl, ?_⟩
  have h := HB1.out
  iterate 6 (refine Below.setCell ?_ (by first | (simp; done) | (simp; omega)) _)
  exact h
set_option maxRecDepth 100000 in
set_option maxHeartbeats 2000000 in
theorem sbad_name (w : World) (a : Option Addr) (cap : Nat) (fs : List FileD) (c k cr fl : Int) (dn : Bool) (op : OpD) (h : Given w a fs op) (hq : diskB fs c k cr fl = true) (hk : btwB op.kind 1 6 = true) (hnm : nameB op.name = false) : Specs w a cap fs c k cr fl dn op := by
  unfold Specs
  have HF : Hid (FilesIn w a fs) := h.files
  have hs := h.short
  have hlen := h.len
  have hsum := h.sum
  have hn := h.name
  have ht := h.to
  have hdata := h.data
  have hml : fs.length ≤ maxLen := by simp [maxLen]; omega
  have HQ : Hid (diskB fs c k cr fl = true) := hq
  have HKB : Hid (btwB op.kind 1 6 = true) := hk
  have HNM : Hid (nameB op.name = false) := hnm
  have EO : Hid (outR fs c k cr fl dn op = (6, [], 0, 0, 0, 0, false)) := by show _ = _; unfold outR; rw [if_neg (by unfold opB; rw [hnm]; simp)]
  clear h hq hk hnm ht hdata
  go_enter Tryz.func17, Tryz.ntmps17
  go_wp2_with fail
  refine (specValid_is HQ.out _ (((HF.out.later (bnew _ _)).later (bnew _ _)).later (bnew _ _)) hs hml hsum).mono ?_
  rintro e w1 ⟨rfl, hb1⟩
  obtain ⟨hdk, hop, hR, hbel⟩ := three_boxes hb1
  have HDK : Hid (DiskAt w1 w.heap.size a fs.length cap c k cr fl dn) := hdk
  have HOP : Hid (OpAt w1 (w.heap.size + 1) op 48) := hop
  have HR : Hid (Blk w1 (w.heap.size + 1 + 1) #[.slice none 0 0, .int .i64 0, .int .i64 0, .int .i64 0, .int .i64 0, .bool false] 30) := hR
  have HB1 : Hid (Below w.heap.size w w1) := hbel
  obtain ⟨o0, o1, o2, o3, o4⟩ := HOP.out.cells
  clear hb1 hdk hop hR hbel
  go_wp2_with fail
  refine (between_is HKB.out _).mono ?_
  rintro e w2 ⟨rfl, rfl⟩
  go_wp2_with fail
  refine (l1FileName_is HNM.out _ hn).mono ?_
  rintro e w2 ⟨rfl, rfl⟩
  clear o0 o1 o2 o3 o4
  have r0 := HR.out.cell 0
  have r1 := HR.out.cell 1
  have r2 := HR.out.cell 2
  have r3 := HR.out.cell 3
  have r4 := HR.out.cell 4
  have r5 := HR.out.cell 5
  simp only [List.getElem?_toArray, List.getElem?_cons_zero, List.getElem?_cons_succ] at r0 r1 r2 r3 r4 r5
  have q0 := HR.out.free 0
  have q1 := HR.out.free 1
  have q2 := HR.out.free 2
  have q3 := HR.out.free 3
  have q4 := HR.out.free 4
  have q5 := HR.out.free 5
  clear HDK
  go_wp2
  refine bodyPost_ret (v := .tuple #[.agg #[.slice none 0 0, .int .i64 0, .int .i64 0, .int .i64 0, .int .i64 0, .bool false], .int .i64 6]) (by simp [results, Tryz.results17, go_sem, r0, r1, r2, r3, r4, r5]) rfl ?_
  rw [EO.out]
  refine ⟨none, 0, rfl, Or.inl rfl, ?_⟩
  have h := HB1.out
  iterate 6 (refine Below.setCell ?_ (by first | (simp; done) | (simp; omega)) _)
  exact h
set_option maxRecDepth 100000 in
set_option maxHeartbeats 2000000 in
theorem sbad_to (w : World) (a : Option Addr) (cap : Nat) (fs : List FileD) (c k cr fl : Int) (dn : Bool) (op : OpD) (h : Given w a fs op) (hq : diskB fs c k cr fl = true) (hk : op.kind = 5) (hnm : nameB op.name = true) (hto : nameB op.to = false) : Specs w a cap fs c k cr fl dn op := by
  unfold Specs
  have HF : Hid (FilesIn w a fs) := h.files
  have hs := h.short
  have hlen := h.len
  have hsum := h.sum
  have hn := h.name
  have ht := h.to
  have hdata := h.data
  have hml : fs.length ≤ maxLen := by simp [maxLen]; omega
  have HQ : Hid (diskB fs c k cr fl = true) := hq
  have HKB : Hid (btwB 5 1 6 = true) := by show _ = _; decide
  have HK5 : Hid (op.kind = 5) := hk
  have HNM : Hid (nameB op.name = true) := hnm
  have HTO : Hid (nameB op.to = false) := hto
  have EO : Hid (outR fs c k cr fl dn op = (6, [], 0, 0, 0, 0, false)) := by show _ = _; unfold outR; rw [if_neg (by unfold opB; rw [hto, hk]; simp)]
  clear h hq hk hnm hto hdata
  go_enter Tryz.func17, Tryz.ntmps17
  go_wp2_with fail
  refine (specValid_is HQ.out _ (((HF.out.later (bnew _ _)).later (bnew _ _)).later (bnew _ _)) hs hml hsum).mono ?_
  rintro e w1 ⟨rfl, hb1⟩
  obtain ⟨hdk, hop, hR, hbel⟩ := three_boxes hb1
  have HDK : Hid (DiskAt w1 w.heap.size a fs.length cap c k cr fl dn) := hdk
  have HOP : Hid (OpAt w1 (w.heap.size + 1) op 48) := hop
  have HR : Hid (Blk w1 (w.heap.size + 1 + 1) #[.slice none 0 0, .int .i64 0, .int .i64 0, .int .i64 0, .int .i64 0, .bool false] 30) := hR
  have HB1 : Hid (Below w.heap.size w w1) := hbel
  obtain ⟨o0, o1, o2, o3, o4⟩ := HOP.out.cells
  clear hb1 hdk hop hR hbel
  have hk := HK5.out
  go_wp2_with fail
  refine (between_is HKB.out _).mono ?_
  rintro e w2 ⟨rfl, rfl⟩
  go_wp2_with fail
  refine (l1FileName_is HNM.out _ hn).mono ?_
  rintro e w2 ⟨rfl, rfl⟩
  go_wp2_with fail
  refine (l1FileName_is HTO.out _ ht).mono ?_
  rintro e w2 ⟨rfl, rfl⟩
  clear o0 o1 o2 o3 o4
  have r0 := HR.out.cell 0
  have r1 := HR.out.cell 1
  have r2 := HR.out.cell 2
  have r3 := HR.out.cell 3
  have r4 := HR.out.cell 4
  have r5 := HR.out.cell 5
  simp only [List.getElem?_toArray, List.getElem?_cons_zero, List.getElem?_cons_succ] at r0 r1 r2 r3 r4 r5
  have q0 := HR.out.free 0
  have q1 := HR.out.free 1
  have q2 := HR.out.free 2
  have q3 := HR.out.free 3
  have q4 := HR.out.free 4
  have q5 := HR.out.free 5
  clear HDK
  go_wp2
  refine bodyPost_ret (v := .tuple #[.agg #[.slice none 0 0, .int .i64 0, .int .i64 0, .int .i64 0, .int .i64 0, .bool false], .int .i64 6]) (by simp [results, Tryz.results17, go_sem, r0, r1, r2, r3, r4, r5]) rfl ?_
  rw [EO.out]
  refine ⟨none, 0, rfl, Or.inl rfl, ?_⟩
  have h := HB1.out
  iterate 6 (refine Below.setCell ?_ (by first | (simp; done) | (simp; omega)) _)
  exact h
end Go.Proofs.YtboofidegpnkaaaGreatDoor
