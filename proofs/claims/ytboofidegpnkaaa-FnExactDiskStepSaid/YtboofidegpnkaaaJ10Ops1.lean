import Derived.Test.YtboofidegpnkaaaProg
import Derived.Test.YtboofidegpnkaaaJ03Cmp
import Derived.Test.YtboofidegpnkaaaJ09By
import Derived.Test.YtboofidegpnkaaaJ08Del
namespace Go.Proofs.Ytboofidegpnkaaa
open Go.RowKit

theorem within_is {x hi : Int} {b : Bool} (h : btwB x 0 hi = b) (w : World) : Calls Try.prog 35 #[.int .i64 x, .int .i64 hi] w fun e w' => e = .returned (.bool b) ∧ w' = w := h ▸ within_any x hi w
theorem between_is {x lo hi : Int} {b : Bool} (h : btwB x lo hi = b) (w : World) : Calls Try.prog 15 #[.int .i64 x, .int .i64 lo, .int .i64 hi] w fun e w' => e = .returned (.bool b) ∧ w' = w := h ▸ between_any x lo hi w
theorem filesValid_is {a : Option Addr} {cap : Nat} {fs : List FileD} {b : Bool} (h : (decide (fs.length ≤ 1000) && filesB fs) = b) (w : World) (hf : FilesIn w a fs) (hs : Short fs) (hlen : fs.length ≤ maxLen) :
    Calls Try.prog 34 #[.slice a fs.length cap] w fun e w' => e = .returned (.bool b) ∧ Below w.heap.size w w' := h ▸ filesValid_any a cap fs w hf hs hlen

def diskB (fs : List FileD) (c k cr fl : Int) : Bool :=
  (decide (fs.length ≤ 1000) && filesB fs) && btwB c 0 1000000000 && decide ((sumLen fs : Int) ≤ c) && btwB k 0 1000000000000000 && btwB cr 0 1000000000000000 && btwB fl 0 1000000000000000

/-- The block of a disk's six cells, newly laid. -/
theorem box_cells (w : World) (v0 v1 v2 v3 v4 v5 : Value) (t : TypeId) : let W := w.alloc (.cells #[v0, v1, v2, v3, v4, v5] t)
    W.cell? ⟨w.heap.size, 0, none⟩ = some v0 ∧ W.cell? ⟨w.heap.size, 1, none⟩ = some v1 ∧ W.cell? ⟨w.heap.size, 2, none⟩ = some v2 ∧
    W.cell? ⟨w.heap.size, 3, none⟩ = some v3 ∧ W.cell? ⟨w.heap.size, 4, none⟩ = some v4 ∧ W.cell? ⟨w.heap.size, 5, none⟩ = some v5 := by
  simp [go_sem]

set_option maxHeartbeats 4000000 in
theorem implValid_any (a : Option Addr) (cap : Nat) (fs : List FileD) (c k cr fl : Int) (dn : Bool) (w : World) (hf : FilesIn w a fs) (hs : Short fs) (hlen : fs.length ≤ maxLen) (hsum : sumLen fs ≤ 1000000000) :
    Calls Try.prog 19 #[.agg #[.slice a fs.length cap, .int .i64 c, .int .i64 k, .int .i64 cr, .int .i64 fl, .bool dn]] w fun e w' => e = .returned (.bool (diskB fs c k cr fl)) ∧ Below w.heap.size w w' := by
  obtain ⟨k0, k1, k2, k3, k4, k5⟩ := box_cells w (.slice a fs.length cap) (.int .i64 c) (.int .i64 k) (.int .i64 cr) (.int .i64 fl) (.bool dn) 31
  have d0 := Later.cells k0
  have d1 := Later.cells k1
  have d2 := Later.cells k2
  have d3 := Later.cells k3
  have d4 := Later.cells k4
  have hb0 : Below w.heap.size w (w.alloc (.cells #[.slice a fs.length cap, .int .i64 c, .int .i64 k, .int .i64 cr, .int .i64 fl, .bool dn] 31)) := (Below.refl _ _).alloc (Nat.le_refl _) _
  have hne := Later.there (w.alloc (.cells #[.slice a fs.length cap, .int .i64 c, .int .i64 k, .int .i64 cr, .int .i64 fl, .bool dn] 31))
  have HFx : Hid (∀ x : Later (w.alloc (.cells #[.slice a fs.length cap, .int .i64 c, .int .i64 k, .int .i64 cr, .int .i64 fl, .bool dn] 31)), FilesIn x.w' a fs) := fun x => (hf.later hb0).later x.h
  have HB : Hid (∀ x : Later (w.alloc (.cells #[.slice a fs.length cap, .int .i64 c, .int .i64 k, .int .i64 cr, .int .i64 fl, .bool dn] 31)), Below w.heap.size w x.w') := fun x => hb0.trans (x.h.mono hb0.size)
  have HS : Hid (Short fs) := hs
  have HL : Hid (fs.length ≤ maxLen) := hlen
  clear k0 k1 k2 k3 k4 k5 hb0 hf hs hlen
  by_cases hA0 : (decide (fs.length ≤ 1000) && filesB fs) = false
  · have E : Hid (diskB fs c k cr fl = false) := by show _ = _; simp only [diskB, hA0, Bool.false_and]
    have HA : Hid ((decide (fs.length ≤ 1000) && filesB fs) = false) := hA0
    clear hA0
    go_enter Try.func19, Try.ntmps19
    go_wp2_with fail
    refine wp_region_later (by kernel_rfl) (by kernel_rfl) ?_
    repeat (go_big_quiet_step (first | (go_at_call 34; exact calls_later (filesValid_is HA.out _ (HFx.out _) HS.out HL.out)) | (go_at_call 36; exact calls_later (bytesOf_any _ _ _ _ (HFx.out _) HL.out hsum)) | (go_at_call 35; apply calls_later_same; apply within_is; first | exact HB1.out | exact HD.out | exact HE.out | exact HG.out)))
    refine wpQuiet_nil ?_
    rintro _ ⟨x, rfl⟩
    go_wp2
    go_ret
    exact ⟨ret_bool E.out.symm, HB.out x⟩
  have qA : (decide (fs.length ≤ 1000) && filesB fs) = true := by simpa using hA0
  have HA : Hid ((decide (fs.length ≤ 1000) && filesB fs) = true) := qA
  clear hA0
  by_cases hB0 : btwB c 0 1000000000 = false
  · have E : Hid (diskB fs c k cr fl = false) := by show _ = _; simp only [diskB, hB0, qA, Bool.false_and, Bool.true_and]
    have HB1 : Hid (btwB c 0 1000000000 = false) := hB0
    clear hB0 qA
    go_enter Try.func19, Try.ntmps19
    go_wp2_with fail
    refine wp_region_later (by kernel_rfl) (by kernel_rfl) ?_
    repeat (go_big_quiet_step (first | (go_at_call 34; exact calls_later (filesValid_is HA.out _ (HFx.out _) HS.out HL.out)) | (go_at_call 36; exact calls_later (bytesOf_any _ _ _ _ (HFx.out _) HL.out hsum)) | (go_at_call 35; apply calls_later_same; apply within_is; first | exact HB1.out | exact HD.out | exact HE.out | exact HG.out)))
    refine wpQuiet_nil ?_
    rintro _ ⟨x, rfl⟩
    go_wp2
    go_ret
    exact ⟨ret_bool E.out.symm, HB.out x⟩
  have qB : btwB c 0 1000000000 = true := by simpa using hB0
  have HB1 : Hid (btwB c 0 1000000000 = true) := qB
  clear hB0
  by_cases hC0 : decide ((sumLen fs : Int) ≤ c) = false
  · have E : Hid (diskB fs c k cr fl = false) := by show _ = _; simp only [diskB, hC0, qA, qB, Bool.false_and, Bool.true_and]
    have hC1 : decide ((sumLen fs : Int) ≤ c) = false := hC0
    clear hC0 qA qB
    go_enter Try.func19, Try.ntmps19
    go_wp2_with fail
    refine wp_region_later (by kernel_rfl) (by kernel_rfl) ?_
    repeat (go_big_quiet_step (first | (go_at_call 34; exact calls_later (filesValid_is HA.out _ (HFx.out _) HS.out HL.out)) | (go_at_call 36; exact calls_later (bytesOf_any _ _ _ _ (HFx.out _) HL.out hsum)) | (go_at_call 35; apply calls_later_same; apply within_is; first | exact HB1.out | exact HD.out | exact HE.out | exact HG.out)))
    refine wpQuiet_nil ?_
    rintro _ ⟨x, rfl⟩
    go_wp2
    go_ret
    exact ⟨ret_bool E.out.symm, HB.out x⟩
  have qC : decide ((sumLen fs : Int) ≤ c) = true := by simpa using hC0
  have hC : (sumLen fs : Int) ≤ c := by simpa using qC
  clear hC0
  by_cases hD0 : btwB k 0 1000000000000000 = false
  · have E : Hid (diskB fs c k cr fl = false) := by show _ = _; simp only [diskB, hD0, qA, qB, qC, Bool.false_and, Bool.true_and]
    have HD : Hid (btwB k 0 1000000000000000 = false) := hD0
    clear hD0 qA qB qC
    go_enter Try.func19, Try.ntmps19
    go_wp2_with fail
    refine wp_region_later (by kernel_rfl) (by kernel_rfl) ?_
    repeat (go_big_quiet_step (first | (go_at_call 34; exact calls_later (filesValid_is HA.out _ (HFx.out _) HS.out HL.out)) | (go_at_call 36; exact calls_later (bytesOf_any _ _ _ _ (HFx.out _) HL.out hsum)) | (go_at_call 35; apply calls_later_same; apply within_is; first | exact HB1.out | exact HD.out | exact HE.out | exact HG.out)))
    refine wpQuiet_nil ?_
    rintro _ ⟨x, rfl⟩
    go_wp2
    go_ret
    exact ⟨ret_bool E.out.symm, HB.out x⟩
  have qD : btwB k 0 1000000000000000 = true := by simpa using hD0
  have HD : Hid (btwB k 0 1000000000000000 = true) := qD
  clear hD0
  by_cases hE0 : btwB cr 0 1000000000000000 = false
  · have E : Hid (diskB fs c k cr fl = false) := by show _ = _; simp only [diskB, hE0, qA, qB, qC, qD, Bool.false_and, Bool.true_and]
    have HE : Hid (btwB cr 0 1000000000000000 = false) := hE0
    clear hE0 qA qB qC qD
    go_enter Try.func19, Try.ntmps19
    go_wp2_with fail
    refine wp_region_later (by kernel_rfl) (by kernel_rfl) ?_
    repeat (go_big_quiet_step (first | (go_at_call 34; exact calls_later (filesValid_is HA.out _ (HFx.out _) HS.out HL.out)) | (go_at_call 36; exact calls_later (bytesOf_any _ _ _ _ (HFx.out _) HL.out hsum)) | (go_at_call 35; apply calls_later_same; apply within_is; first | exact HB1.out | exact HD.out | exact HE.out | exact HG.out)))
    refine wpQuiet_nil ?_
    rintro _ ⟨x, rfl⟩
    go_wp2
    go_ret
    exact ⟨ret_bool E.out.symm, HB.out x⟩
  have qE : btwB cr 0 1000000000000000 = true := by simpa using hE0
  have HE : Hid (btwB cr 0 1000000000000000 = true) := qE
  clear hE0
  have E : Hid (diskB fs c k cr fl = btwB fl 0 1000000000000000) := by show _ = _; simp only [diskB, qA, qB, qC, qD, qE, Bool.true_and]
  clear qA qB qC qD qE
  obtain ⟨g, hg⟩ : ∃ g, btwB fl 0 1000000000000000 = g := ⟨_, rfl⟩
  rw [hg] at E
  have HG : Hid (btwB fl 0 1000000000000000 = g) := hg
  clear hg
  go_enter Try.func19, Try.ntmps19
  go_wp2_with fail
  refine wp_region_later (by kernel_rfl) (by kernel_rfl) ?_
  repeat (go_big_quiet_step (first | (go_at_call 34; exact calls_later (filesValid_is HA.out _ (HFx.out _) HS.out HL.out)) | (go_at_call 36; exact calls_later (bytesOf_any _ _ _ _ (HFx.out _) HL.out hsum)) | (go_at_call 35; apply calls_later_same; apply within_is; first | exact HB1.out | exact HD.out | exact HE.out | exact HG.out)))
  refine wpQuiet_nil ?_
  rintro _ ⟨x, rfl⟩
  go_wp2
  go_ret
  exact ⟨ret_bool E.out.symm, HB.out x⟩
end Go.Proofs.Ytboofidegpnkaaa

namespace Go.Proofs.Ytboofidegpnkaaa
open Go.RowKit

theorem row_of_files {w : World} {B g cap : Nat} {cur : Array Value} {e : TypeId} {fs : List FileD} (hB : B ≤ g) (h : Blk w g cur e) (hn : fs.length ≤ cap) (hm : cap ≤ maxLen) (hs : cur.size = cap * 3) (hr : ∀ j (hj : j < fs.length), RowFile cur 0 j fs[j]) :
    w.ownsRow B e 3 (.slice (some ⟨g, 0, none⟩) fs.length cap) fs.length (flat fs) :=
  row_of_cells hB h hn hm hs (flat_length fs) fun j u hu => by
    have := cells_of_files (filesAt_of_rows h hr) j u hu
    rwa [Addr.add_lit, Nat.zero_add] at this

theorem files_of_row {w : World} {B g cap : Nat} {e : TypeId} {fs : List FileD} (h : w.ownsRow B e 3 (.slice (some ⟨g, 0, none⟩) fs.length cap) fs.length (flat fs)) :
    ∃ cur, B ≤ g ∧ Blk w g cur e ∧ fs.length ≤ cap ∧ cap ≤ maxLen ∧ cur.size = cap * 3 ∧ ∀ j (hj : j < fs.length), RowFile cur 0 j fs[j] := by
  obtain ⟨cur, hB, _, hb, hn, hm, hs, hc⟩ := cells_of_row h
  refine ⟨cur, hB, hb, hn, hm, hs, fun j hj => ?_⟩
  obtain ⟨a1, a2, a3⟩ := flat_get fs j hj
  have b1 := hc _ _ a1
  have b2 := hc _ _ a2
  have b3 := hc _ _ a3
  rw [hb.cell] at b1 b2 b3
  exact ⟨by rw [Nat.zero_add]; exact b1, by rw [Nat.zero_add]; exact b2, by rw [Nat.zero_add]; exact b3⟩

theorem DriveAt.slice {w : World} {B D : Nat} {fs : List FileD} {c k cr fl : Int} {dn : Bool} {v : Value} (h : DriveAt w B D fs c k cr fl dn v) (hn : 0 < fs.length) : ∃ g cap, v = .slice (some ⟨g, 0, none⟩) fs.length cap ∧ g ≠ D ∧ B ≤ g := by
  rcases h.row.2 with ⟨_, h0⟩ | ⟨g, cap, cur, rfl, hB, _⟩
  · omega
  · exact ⟨g, cap, rfl, h.apart g rfl, hB⟩

theorem DriveAt.size {w : World} {B D : Nat} {fs : List FileD} {c k cr fl : Int} {dn : Bool} {v : Value} (h : DriveAt w B D fs c k cr fl dn v) : B ≤ w.heap.size := by
  have := lt_of_block h.blk; have := h.from'; omega

theorem DriveAt.cell4 {w : World} {B D : Nat} {fs : List FileD} {c k cr fl : Int} {dn : Bool} {v : Value} (h : DriveAt w B D fs c k cr fl dn v) : w.cell? ⟨D, 4, none⟩ = some v := by
  have := h.blk.cell 4; simpa using this
theorem DriveAt.cell5 {w : World} {B D : Nat} {fs : List FileD} {c k cr fl : Int} {dn : Bool} {v : Value} (h : DriveAt w B D fs c k cr fl dn v) : w.cell? ⟨D, 5, none⟩ = some (.int .i64 c) := by
  have := h.blk.cell 5; simpa using this

theorem DriveAt.files {w : World} {B D : Nat} {fs : List FileD} {c k cr fl : Int} {dn : Bool} {v : Value} (h : DriveAt w B D fs c k cr fl dn v) : ∃ a cap, v = .slice a fs.length cap ∧ FilesIn w a fs := by
  obtain ⟨a, cap, rfl, ho⟩ := owned_of_row h.row
  exact ⟨a, cap, rfl, ho.files⟩

/-- One file of a drive has been put in the place of another. -/
theorem DriveAt.put {w w' : World} {B D g cap i : Nat} {fs : List FileD} {f : FileD} {c k cr fl : Int} {dn : Bool} {cur' : Array Value} (h : DriveAt w B D fs c k cr fl dn (.slice (some ⟨g, 0, none⟩) fs.length cap)) (hbut : But g w w')
    (hb : Blk w' g cur' 61) (hs : cur'.size = cap * 3) (hr : ∀ m (hm : m < fs.length), RowFile cur' 0 m (if m = i then f else fs[m])) : DriveAt w' B D (fs.set i f) c k cr fl dn (.slice (some ⟨g, 0, none⟩) fs.length cap) := by
  obtain ⟨cur, hB, _, hn, hm, _, _⟩ := files_of_row h.row
  refine ⟨h.from', Blk.keeps h.blk (Keeps.but hbut) (fun e => h.apart g rfl e.symm), ?_, h.apart⟩
  have e : (fs.set i f).length = fs.length := List.length_set ..
  have := row_of_files (fs := fs.set i f) hB hb (by rw [e]; exact hn) hm hs (fun j hj => by
    have h1 := hr j (by omega)
    rw [List.getElem_set]
    by_cases e2 : j = i
    · subst e2; simpa using h1
    · rw [if_neg e2] at h1; rw [if_neg (Ne.symm e2)]; exact h1)
  rw [e] at this
  rw [e]
  exact this

set_option maxHeartbeats 400000 in
theorem write_any (b o : Nat) (cur : Array Value) (t : TypeId) (d x : ByteArray) (w : World) (hb : Blk w b cur t) (h1 : cur[o + 1]? = some (.string d)) (hl : d.size + x.size ≤ 4000000000) :
    Calls Try.prog 56 #[.pointer (some ⟨b, o, none⟩), .string x] w fun e w' => e = .returned (.tuple #[]) ∧ w' = w.setCell ⟨b, o + 1, none⟩ (.string (d ++ x)) := by
  have c1 := hb.cell (o + 1)
  rw [h1] at c1
  have f1 := hb.free (o + 1)
  clear hb h1
  go_enter Try.func56, Try.ntmps56
  go_wp2
  go_end0
  exact ⟨rfl, rfl⟩

/-- The rows of a block in which the last two cells of file i were turned. -/
theorem rows_put {cur : Array Value} {fs : List FileD} {i : Nat} (hi : i < fs.length) (h : ∀ m (hm : m < fs.length), RowFile cur 0 m fs[m]) (x : ByteArray) (s : Int) :
    ∀ m (hm : m < fs.length), RowFile ((cur.setIfInBounds (i * 3 + 1) (.string x)).setIfInBounds (i * 3 + 2) (.int .i64 s)) 0 m (if m = i then ⟨fs[i].name, x, s⟩ else fs[m]) := by
  intro m hm
  by_cases e : m = i
  · subst e
    rw [if_pos rfl]
    obtain ⟨a1, a2, a3⟩ := h m hm
    have l2 := (Array.getElem?_eq_some_iff.1 a2).1
    have l3 := (Array.getElem?_eq_some_iff.1 a3).1
    rw [Nat.zero_add] at l2 l3
    refine ⟨?_, ?_, ?_⟩
    · rw [Array.getElem?_setIfInBounds_ne (by omega), Array.getElem?_setIfInBounds_ne (by omega)]; exact a1
    · rw [Nat.zero_add, Array.getElem?_setIfInBounds_ne (by omega)]
      simp [l2]
    · rw [Nat.zero_add]
      simp [l3]
  · rw [if_neg e]
    exact ((h m hm).set (by omega) _).set (by omega) _

theorem rows_put1 {cur : Array Value} {fs : List FileD} {i : Nat} (hi : i < fs.length) (h : ∀ m (hm : m < fs.length), RowFile cur 0 m fs[m]) (x : ByteArray) :
    ∀ m (hm : m < fs.length), RowFile (cur.setIfInBounds (i * 3 + 1) (.string x)) 0 m (if m = i then ⟨fs[i].name, x, fs[i].synced⟩ else fs[m]) := by
  intro m hm
  by_cases e : m = i
  · subst e
    rw [if_pos rfl]
    obtain ⟨a1, a2, a3⟩ := h m hm
    have l2 := (Array.getElem?_eq_some_iff.1 a2).1
    rw [Nat.zero_add] at l2
    refine ⟨?_, ?_, ?_⟩
    · rw [Array.getElem?_setIfInBounds_ne (by omega)]; exact a1
    · rw [Nat.zero_add]
      simp [l2]
    · rw [Array.getElem?_setIfInBounds_ne (by omega)]; exact a3
  · rw [if_neg e]
    exact (h m hm).set (by omega) _

theorem rows_put2 {cur : Array Value} {fs : List FileD} {i : Nat} (hi : i < fs.length) (h : ∀ m (hm : m < fs.length), RowFile cur 0 m fs[m]) (s : Int) :
    ∀ m (hm : m < fs.length), RowFile (cur.setIfInBounds (i * 3 + 2) (.int .i64 s)) 0 m (if m = i then ⟨fs[i].name, fs[i].data, s⟩ else fs[m]) := by
  intro m hm
  by_cases e : m = i
  · subst e
    rw [if_pos rfl]
    obtain ⟨a1, a2, a3⟩ := h m hm
    have l3 := (Array.getElem?_eq_some_iff.1 a3).1
    rw [Nat.zero_add] at l3
    refine ⟨?_, ?_, ?_⟩
    · rw [Array.getElem?_setIfInBounds_ne (by omega)]; exact a1
    · rw [Array.getElem?_setIfInBounds_ne (by omega)]; exact a2
    · rw [Nat.zero_add]
      simp [l3]
  · rw [if_neg e]
    exact (h m hm).set (by omega) _

set_option maxRecDepth 100000 in
set_option maxHeartbeats 1000000 in
theorem truncate_bad (b o : Nat) (cur : Array Value) (t : TypeId) (d : ByteArray) (s : Int) (w : World) (hb : Blk w b cur t) (h1 : cur[o + 1]? = some (.string d)) (hs : btwB s 0 d.size = false) :
    Calls Try.prog 44 #[.pointer (some ⟨b, o, none⟩), .int .i64 s] w fun e w' => e = .returned (errV 6) ∧ Below w.heap.size w w' := by
  have c1 := hb.cell (o + 1)
  rw [h1] at c1
  have HS : Hid (btwB s 0 d.size = false) := hs
  clear hb h1 hs
  go_enter Try.func44, Try.ntmps44
  go_wp2_with fail
  refine (within_is HS.out _).mono ?_
  rintro e w' ⟨rfl, rfl⟩
  go_wp2
  go_ret
  exact ⟨rfl, Below.refl _ _⟩

set_option maxRecDepth 100000 in
set_option maxHeartbeats 1000000 in
theorem truncate_ok (b o : Nat) (cur : Array Value) (t : TypeId) (d : ByteArray) (s : Int) (w : World) (hb : Blk w b cur t) (h1 : cur[o + 1]? = some (.string d)) (h2 : o + 2 < cur.size) (hs : btwB s 0 d.size = true) (hd : d.size ≤ 1000000000) :
    Calls Try.prog 44 #[.pointer (some ⟨b, o, none⟩), .int .i64 s] w fun e w' => e = .returned (errV 0) ∧ But b w w' ∧
      Blk w' b ((cur.setIfInBounds (o + 1) (.string (d.extract 0 s.toNat))).setIfInBounds (o + 2) (.int .i64 s)) t := by
  have c1 := hb.cell (o + 1)
  rw [h1] at c1
  have f1 := hb.free (o + 1)
  have HS : Hid (btwB s 0 d.size = true) := hs
  have hs0 : 0 ≤ s ∧ s ≤ d.size := by simpa [btwB] using hs
  obtain ⟨hs0, hs1⟩ := hs0
  have HB : Hid (Blk w b cur t) := hb
  have H1 : Hid (o + 1 < cur.size) := (Array.getElem?_eq_some_iff.1 h1).1
  have H2 : Hid (o + 2 < cur.size) := h2
  clear hb h1 hs h2
  go_enter Try.func44, Try.ntmps44
  go_wp2_with fail
  refine (within_is HS.out _).mono ?_
  rintro e w' ⟨rfl, rfl⟩
  go_wp2_with fail
  refine (sync_any b o _ t (d.extract 0 s.toNat) _ (HB.out.set (o + 1) (.string (d.extract 0 s.toNat))) (by have := H1.out; simp [Array.getElem?_setIfInBounds]; omega) (by have := H2.out; simp; omega)).mono ?_
  rintro e w1 ⟨rfl, hw1⟩
  have HF : Hid (But b w' w1) := by show But b w' w1; rw [hw1]; exact ((But.refl _ _).setCell _ _).setCell _ _
  have E3 : Hid (((d.extract 0 s.toNat).size : Int) = s) := by show _ = _; rw [ByteArray.size_extract]; omega
  have HG : Hid (Blk w1 b ((cur.setIfInBounds (o + 1) (.string (d.extract 0 s.toNat))).setIfInBounds (o + 2) (.int .i64 s)) t) := by
    have h := (HB.out.set (o + 1) (.string (d.extract 0 s.toNat))).set (o + 2) (.int .i64 ((d.extract 0 s.toNat).size : Nat))
    show Blk _ _ _ _
    rw [hw1]
    rw [E3.out] at h ⊢
    exact h
  clear hw1
  go_wp2
  go_ret
  exact ⟨rfl, HF.out, HG.out⟩
end Go.Proofs.Ytboofidegpnkaaa

