import Derived.Test.YtndaihhjhllfcadProg
import Derived.Test.YtndaihhjhllfcadFv
import Derived.Test.YtndaihhjhllfcadBy
namespace Go.Proofs.Ytndaihhjhllfcad
open Go.RowKit

theorem within_is {x hi : Int} {b : Bool} (h : btwB x 0 hi = b) (w : World) : Calls Try.prog 35 #[.int .i64 x, .int .i64 hi] w fun e w' => e = .returned (.bool b) ∧ w' = w := h ▸ within_any x hi w
theorem between_is {x lo hi : Int} {b : Bool} (h : btwB x lo hi = b) (w : World) : Calls Try.prog 15 #[.int .i64 x, .int .i64 lo, .int .i64 hi] w fun e w' => e = .returned (.bool b) ∧ w' = w := h ▸ between_any x lo hi w
theorem filesValid_is {a : Option Addr} {cap : Nat} {fs : List FileD} {b : Bool} (h : (decide (fs.length ≤ 1000) && filesB fs) = b) (w : World) (hf : FilesIn w a fs) (hs : Short fs) (hlen : fs.length ≤ maxLen) :
    Calls Try.prog 34 #[.slice a fs.length cap] w fun e w' => e = .returned (.bool b) ∧ Below w.heap.size w w' := h ▸ filesValid_any a cap fs w hf hs hlen

def diskB (fs : List FileD) (c k cr fl : Int) : Bool :=
  (decide (fs.length ≤ 1000) && filesB fs) && btwB c 0 1000000000 && decide ((sumLen fs : Int) ≤ c) && btwB k 0 1000000000000000 && btwB cr 0 1000000000000000 && btwB fl 0 1000000000000000

/-- The block of a disk's six cells, newly laid. -/
theorem box_cells (w : World) (v0 v1 v2 v3 v4 v5 : Value) (t : TypeId) : let W := w.alloc (.cells #[v0, v1, v2, v3, v4, v5] t)
    W.cell? ⟨w.heap.size, 0, none⟩ = some v0 ∧ W.cell? ⟨w.heap.size, 1, none⟩ = some v1 ∧ W.cell? ⟨w.heap.size, 2, none⟩ = some v2 ∧
    W.cell? ⟨w.heap.size, 3, none⟩ = some v3 ∧ W.cell? ⟨w.heap.size, 4, none⟩ = some v4 ∧ W.cell? ⟨w.heap.size, 5, none⟩ = some v5 := by
  simp [go_sem]

set_option maxHeartbeats 4000000 in
theorem implValid_any (a : Option Addr) (cap : Nat) (fs : List FileD) (c k cr fl : Int) (dn : Bool) (w : World) (hf : FilesIn w a fs) (hs : Short fs) (hlen : fs.length ≤ maxLen) (hsum : sumLen fs ≤ 1000000000) :
    Calls Try.prog 19 #[.agg #[.slice a fs.length cap, .int .i64 c, .int .i64 k, .int .i64 cr, .int .i64 fl, .bool dn]] w fun e w' => e = .returned (.bool (diskB fs c k cr fl)) ∧ Below w.heap.size w w' := by
  obtain ⟨k0, k1, k2, k3, k4, k5⟩ := box_cells w (.slice a fs.length cap) (.int .i64 c) (.int .i64 k) (.int .i64 cr) (.int .i64 fl) (.bool dn) 31
  have d0 := Later.cells k0
  have d1 := Later.cells k1
  have d2 := Later.cells k2
  have d3 := Later.cells k3
  have d4 := Later.cells k4
  have hb0 : Below w.heap.size w (w.alloc (.cells #[.slice a fs.length cap, .int .i64 c, .int .i64 k, .int .i64 cr, .int .i64 fl, .bool dn] 31)) := (Below.refl _ _).alloc (Nat.le_refl _) _
  have hne := Later.there (w.alloc (.cells #[.slice a fs.length cap, .int .i64 c, .int .i64 k, .int .i64 cr, .int .i64 fl, .bool dn] 31))
  have HFx : Hid (∀ x : Later (w.alloc (.cells #[.slice a fs.length cap, .int .i64 c, .int .i64 k, .int .i64 cr, .int .i64 fl, .bool dn] 31)), FilesIn x.w' a fs) := fun x => (hf.later hb0).later x.h
  have HB : Hid (∀ x : Later (w.alloc (.cells #[.slice a fs.length cap, .int .i64 c, .int .i64 k, .int .i64 cr, .int .i64 fl, .bool dn] 31)), Below w.heap.size w x.w') := fun x => hb0.trans (x.h.mono hb0.size)
  have HS : Hid (Short fs) := hs
  have HL : Hid (fs.length ≤ maxLen) := hlen
  clear k0 k1 k2 k3 k4 k5 hb0 hf hs hlen
  by_cases hA0 : (decide (fs.length ≤ 1000) && filesB fs) = false
  · have E : Hid (diskB fs c k cr fl = false) := by show _ = _; simp only [diskB, hA0, Bool.false_and]
    have HA : Hid ((decide (fs.length ≤ 1000) && filesB fs) = false) := hA0
    clear hA0
    go_enter Try.func19, Try.ntmps19
    go_wp2_with fail
    refine wp_region_later (by kernel_rfl) (by kernel_rfl) ?_
    repeat (go_big_quiet_step (first | (go_at_call 34; exact calls_later (filesValid_is HA.out _ (HFx.out _) HS.out HL.out)) | (go_at_call 36; exact calls_later (bytesOf_any _ _ _ _ (HFx.out _) HL.out hsum)) | (go_at_call 35; apply calls_later_same; apply within_is; first | exact HB1.out | exact HD.out | exact HE.out | exact HG.out)))
    refine wpQuiet_nil ?_
    rintro _ ⟨x, rfl⟩
    go_wp2
    go_ret
    exact ⟨ret_bool E.out.symm, HB.out x⟩
  have qA : (decide (fs.length ≤ 1000) && filesB fs) = true := by simpa using hA0
  have HA : Hid ((decide (fs.length ≤ 1000) && filesB fs) = true) := qA
  clear hA0
  by_cases hB0 : btwB c 0 1000000000 = false
  · have E : Hid (diskB fs c k cr fl = false) := by show _ = _; simp only [diskB, hB0, qA, Bool.false_and, Bool.true_and]
    have HB1 : Hid (btwB c 0 1000000000 = false) := hB0
    clear hB0 qA
    go_enter Try.func19, Try.ntmps19
    go_wp2_with fail
    refine wp_region_later (by kernel_rfl) (by kernel_rfl) ?_
    repeat (go_big_quiet_step (first | (go_at_call 34; exact calls_later (filesValid_is HA.out _ (HFx.out _) HS.out HL.out)) | (go_at_call 36; exact calls_later (bytesOf_any _ _ _ _ (HFx.out _) HL.out hsum)) | (go_at_call 35; apply calls_later_same; apply within_is; first | exact HB1.out | exact HD.out | exact HE.out | exact HG.out)))
    refine wpQuiet_nil ?_
    rintro _ ⟨x, rfl⟩
    go_wp2
    go_ret
    exact ⟨ret_bool E.out.symm, HB.out x⟩
  have qB : btwB c 0 1000000000 = true := by simpa using hB0
  have HB1 : Hid (btwB c 0 1000000000 = true) := qB
  clear hB0
  by_cases hC0 : decide ((sumLen fs : Int) ≤ c) = false
  · have E : Hid (diskB fs c k cr fl = false) := by show _ = _; simp only [diskB, hC0, qA, qB, Bool.false_and, Bool.true_and]
    have hC1 : decide ((sumLen fs : Int) ≤ c) = false := hC0
    clear hC0 qA qB
    go_enter Try.func19, Try.ntmps19
    go_wp2_with fail
    refine wp_region_later (by kernel_rfl) (by kernel_rfl) ?_
    repeat (go_big_quiet_step (first | (go_at_call 34; exact calls_later (filesValid_is HA.out _ (HFx.out _) HS.out HL.out)) | (go_at_call 36; exact calls_later (bytesOf_any _ _ _ _ (HFx.out _) HL.out hsum)) | (go_at_call 35; apply calls_later_same; apply within_is; first | exact HB1.out | exact HD.out | exact HE.out | exact HG.out)))
    refine wpQuiet_nil ?_
    rintro _ ⟨x, rfl⟩
    go_wp2
    go_ret
    exact ⟨ret_bool E.out.symm, HB.out x⟩
  have qC : decide ((sumLen fs : Int) ≤ c) = true := by simpa using hC0
  have hC : (sumLen fs : Int) ≤ c := by simpa using qC
  clear hC0
  by_cases hD0 : btwB k 0 1000000000000000 = false
  · have E : Hid (diskB fs c k cr fl = false) := by show _ = _; simp only [diskB, hD0, qA, qB, qC, Bool.false_and, Bool.true_and]
    have HD : Hid (btwB k 0 1000000000000000 = false) := hD0
    clear hD0 qA qB qC
    go_enter Try.func19, Try.ntmps19
    go_wp2_with fail
    refine wp_region_later (by kernel_rfl) (by kernel_rfl) ?_
    repeat (go_big_quiet_step (first | (go_at_call 34; exact calls_later (filesValid_is HA.out _ (HFx.out _) HS.out HL.out)) | (go_at_call 36; exact calls_later (bytesOf_any _ _ _ _ (HFx.out _) HL.out hsum)) | (go_at_call 35; apply calls_later_same; apply within_is; first | exact HB1.out | exact HD.out | exact HE.out | exact HG.out)))
    refine wpQuiet_nil ?_
    rintro _ ⟨x, rfl⟩
    go_wp2
    go_ret
    exact ⟨ret_bool E.out.symm, HB.out x⟩
  have qD : btwB k 0 1000000000000000 = true := by simpa using hD0
  have HD : Hid (btwB k 0 1000000000000000 = true) := qD
  clear hD0
  by_cases hE0 : btwB cr 0 1000000000000000 = false
  · have E : Hid (diskB fs c k cr fl = false) := by show _ = _; simp only [diskB, hE0, qA, qB, qC, qD, Bool.false_and, Bool.true_and]
    have HE : Hid (btwB cr 0 1000000000000000 = false) := hE0
    clear hE0 qA qB qC qD
    go_enter Try.func19, Try.ntmps19
    go_wp2_with fail
    refine wp_region_later (by kernel_rfl) (by kernel_rfl) ?_
    repeat (go_big_quiet_step (first | (go_at_call 34; exact calls_later (filesValid_is HA.out _ (HFx.out _) HS.out HL.out)) | (go_at_call 36; exact calls_later (bytesOf_any _ _ _ _ (HFx.out _) HL.out hsum)) | (go_at_call 35; apply calls_later_same; apply within_is; first | exact HB1.out | exact HD.out | exact HE.out | exact HG.out)))
    refine wpQuiet_nil ?_
    rintro _ ⟨x, rfl⟩
    go_wp2
    go_ret
    exact ⟨ret_bool E.out.symm, HB.out x⟩
  have qE : btwB cr 0 1000000000000000 = true := by simpa using hE0
  have HE : Hid (btwB cr 0 1000000000000000 = true) := qE
  clear hE0
  have E : Hid (diskB fs c k cr fl = btwB fl 0 1000000000000000) := by show _ = _; simp only [diskB, qA, qB, qC, qD, qE, Bool.true_and]
  clear qA qB qC qD qE
  obtain ⟨g, hg⟩ : ∃ g, btwB fl 0 1000000000000000 = g := ⟨_, rfl⟩
  rw [hg] at E
  have HG : Hid (btwB fl 0 1000000000000000 = g) := hg
  clear hg
  go_enter Try.func19, Try.ntmps19
  go_wp2_with fail
  refine wp_region_later (by kernel_rfl) (by kernel_rfl) ?_
  repeat (go_big_quiet_step (first | (go_at_call 34; exact calls_later (filesValid_is HA.out _ (HFx.out _) HS.out HL.out)) | (go_at_call 36; exact calls_later (bytesOf_any _ _ _ _ (HFx.out _) HL.out hsum)) | (go_at_call 35; apply calls_later_same; apply within_is; first | exact HB1.out | exact HD.out | exact HE.out | exact HG.out)))
  refine wpQuiet_nil ?_
  rintro _ ⟨x, rfl⟩
  go_wp2
  go_ret
  exact ⟨ret_bool E.out.symm, HB.out x⟩
end Go.Proofs.Ytndaihhjhllfcad
