import Derived.Test.YtflfopienjjlbaaGreatDoorJ16StepL
import Derived.Test.YtflfopienjjlbaaGreatDoorJ10SFrame
import Derived.Test.YtflfopienjjlbaaGreatDoorJ08Find
import Derived.Test.YtflfopienjjlbaaGreatDoorJ13Ins2
import Derived.Test.YtflfopienjjlbaaGreatDoorJ05Dv
import Derived.Test.YtflfopienjjlbaaGreatDoorJ14Ren
import Derived.Test.YtflfopienjjlbaaGreatDoorJ01Drive
import Derived.Laws.MakeOwn
namespace Go.Proofs.YtflfopienjjlbaaGreatDoor
open Go.RowKit

/-- A disk's value, and a log's. -/
structure DiskD where
  fs : List FileD
  c : Int
  k : Int
  cr : Int
  fl : Int
  dn : Bool
structure LogD where
  first : Int
  last : Int
  size : Int

/-- The disk after an operation, and the code. -/
def stepD (D : DiskD) (op : OpD) : DiskD × Nat :=
  (⟨(outR D.fs D.c D.k D.cr D.fl D.dn op).2.1, (outR D.fs D.c D.k D.cr D.fl D.dn op).2.2.1, (outR D.fs D.c D.k D.cr D.fl D.dn op).2.2.2.1, (outR D.fs D.c D.k D.cr D.fl D.dn op).2.2.2.2.1, (outR D.fs D.c D.k D.cr D.fl D.dn op).2.2.2.2.2.1, (outR D.fs D.c D.k D.cr D.fl D.dn op).2.2.2.2.2.2⟩, (outR D.fs D.c D.k D.cr D.fl D.dn op).1)

/-- What the contracts of DiskStep want of a disk's files. -/
structure Fit (fs : List FileD) : Prop where
  short : Short fs
  len : fs.length ≤ 1048576
  sum : sumLen fs ≤ 1000000000

theorem fit_nil : Fit [] := ⟨fun i h => absurd h (by simp), by simp, by simp [sumLen]⟩

theorem sumLen_set (fs : List FileD) (i : Nat) (f : FileD) (h : i < fs.length) : sumLen (fs.set i f) + fs[i].data.size = sumLen fs + f.data.size := by
  induction fs generalizing i with
  | nil => exact absurd h (by simp)
  | cons g r ih =>
    cases i with
    | zero => simp [sumLen]; omega
    | succ i =>
      have := ih i (by simpa using h)
      simp only [List.set_cons_succ, List.getElem_cons_succ, sumLen]
      omega
theorem sumLen_mem {fs : List FileD} (i : Nat) (hi : i < fs.length) : fs[i].data.size ≤ sumLen fs := by
  have h1 := sumLen_take_succ fs i hi
  have h2 := sumLen_take_le fs (i + 1)
  omega
theorem short_mem {fs : List FileD} (h : Short fs) {f : FileD} (hf : f ∈ fs) : f.name.size ≤ maxLen ∧ f.data.size ≤ maxLen := by
  obtain ⟨i, hi, rfl⟩ := List.getElem_of_mem hf
  exact h i hi
theorem short_of {fs : List FileD} (h : ∀ f ∈ fs, f.name.size ≤ maxLen ∧ f.data.size ≤ maxLen) : Short fs := fun _ hi => h _ (List.getElem_mem hi)
theorem short_set {fs : List FileD} (h : Short fs) {i : Nat} {f : FileD} (hf : f.name.size ≤ maxLen ∧ f.data.size ≤ maxLen) : Short (fs.set i f) := short_of fun _ hg => by
  rcases List.mem_or_eq_of_mem_set hg with hg | rfl
  · exact short_mem h hg
  · exact hf
theorem sumLen_erase (fs : List FileD) (i : Nat) : sumLen (fs.eraseIdx i) ≤ sumLen fs := by
  induction fs generalizing i with
  | nil => simp
  | cons g r ih =>
    cases i with
    | zero => simp [sumLen]
    | succ i => have := ih i; simp only [List.eraseIdx_cons_succ, sumLen]; omega
theorem sumLen_eraseIdx (fs : List FileD) (i : Nat) (h : i < fs.length) : sumLen (fs.eraseIdx i) + fs[i].data.size = sumLen fs := by
  induction fs generalizing i with
  | nil => exact absurd h (by simp)
  | cons g r ih =>
    cases i with
    | zero => simp [sumLen]; omega
    | succ i =>
      have := ih i (by simpa using h)
      simp only [List.eraseIdx_cons_succ, List.getElem_cons_succ, sumLen]
      omega
theorem sumLen_filter (p : FileD → Bool) (fs : List FileD) : sumLen (fs.filter p) ≤ sumLen fs := by
  induction fs with
  | nil => simp
  | cons g r ih =>
    rw [List.filter_cons]
    split
    · simp only [sumLen]; omega
    · simp only [sumLen]; omega
theorem sumLen_place (fs : List FileD) (f : FileD) : sumLen (placeL fs f) = sumLen fs + f.data.size := by
  induction fs with
  | nil => simp [placeL, sumLen]
  | cons g r ih =>
    unfold placeL
    split
    · simp only [sumLen]; omega
    · simp only [sumLen, ih]; omega
theorem mem_place {fs : List FileD} {f g : FileD} (h : g ∈ placeL fs f) : g = f ∨ g ∈ fs := by
  induction fs with
  | nil => simp [placeL] at h; exact Or.inl h
  | cons x r ih =>
    unfold placeL at h
    split at h
    · simpa using h
    · rcases List.mem_cons.1 h with rfl | h
      · simp
      · rcases ih h with h | h
        · exact Or.inl h
        · exact Or.inr (List.mem_cons_of_mem _ h)
theorem sumLen_ins (fs : List FileD) (i : Nat) (f : FileD) : sumLen (insL fs i f) = sumLen fs + f.data.size := by
  have h := sumLen_append (fs.take i) (fs.drop i)
  rw [List.take_append_drop] at h
  rw [insL, sumLen_append]
  simp only [sumLen]
  omega

theorem fit_do {fs : List FileD} {c : Int} {op : OpD} (h : Fit fs) (h1 : fs.length ≤ 1000) (h3 : c ≤ 1000000000) (hn : op.name.size ≤ maxLen) (ht : op.to.size ≤ maxLen) : Fit (doR fs c op).2 := by
  have hM : (1000000000 : Nat) ≤ maxLen := by unfold maxLen; omega
  unfold doR
  simp only
  split
  · split
    · exact h
    · split
      · exact h
      · refine ⟨short_of fun f hf => ?_, ?_, ?_⟩
        · simp only [insL, List.mem_append, List.mem_cons] at hf
          rcases hf with hf | rfl | hf
          · exact short_mem h.short (List.mem_of_mem_take hf)
          · exact ⟨hn, by simp [maxLen]⟩
          · exact short_mem h.short (List.mem_of_mem_drop hf)
        · show (insL fs _ _).length ≤ _
          rw [insL]
          simp only [List.length_append, List.length_take, List.length_cons, List.length_drop]
          omega
        · show sumLen (insL fs _ _) ≤ _
          rw [sumLen_ins]
          have := h.sum
          simpa using this
  · split
    · exact h
    · rename_i f hf
      obtain ⟨hi, rfl⟩ := List.getElem?_eq_some_iff.1 hf
      have hmem := short_mem h.short (List.getElem_mem hi)
      have hle := sumLen_mem _ hi
      have hs := h.sum
      split
      · exact h
      · split
        · split
          · exact h
          · rename_i hc
            have hset := sumLen_set fs (posOf op.name fs) ⟨fs[posOf op.name fs].name, fs[posOf op.name fs].data ++ op.data, fs[posOf op.name fs].synced⟩ hi
            simp only [ByteArray.size_append] at hset
            refine ⟨short_set h.short ⟨hmem.1, ?_⟩, ?_, ?_⟩
            · show (fs[posOf op.name fs].data ++ op.data).size ≤ maxLen
              rw [ByteArray.size_append]
              omega
            · show (fs.set _ _).length ≤ _
              rw [List.length_set]; omega
            · show sumLen (fs.set _ _) ≤ _
              omega
        · split
          · have hset := sumLen_set fs (posOf op.name fs) ⟨fs[posOf op.name fs].name, fs[posOf op.name fs].data, fs[posOf op.name fs].data.size⟩ hi
            refine ⟨short_set h.short hmem, ?_, ?_⟩
            · show (fs.set _ _).length ≤ _
              rw [List.length_set]; omega
            · show sumLen (fs.set _ _) ≤ _
              simp only at hset
              omega
          · split
            · split
              · have hset := sumLen_set fs (posOf op.name fs) ⟨fs[posOf op.name fs].name, fs[posOf op.name fs].data.extract 0 op.size.toNat, op.size⟩ hi
                have hx : (fs[posOf op.name fs].data.extract 0 op.size.toNat).size ≤ fs[posOf op.name fs].data.size := by rw [ByteArray.size_extract]; omega
                refine ⟨short_set h.short ⟨hmem.1, ?_⟩, ?_, ?_⟩
                · show (fs[posOf op.name fs].data.extract 0 op.size.toNat).size ≤ maxLen
                  omega
                · show (fs.set _ _).length ≤ _
                  rw [List.length_set]; omega
                · show sumLen (fs.set _ _) ≤ _
                  simp only at hset
                  omega
              · exact h
            · split
              · have hlen : (fs.eraseIdx (posOf op.name fs)).length ≤ fs.length := by rw [List.length_eraseIdx]; split <;> omega
                have her := sumLen_eraseIdx fs (posOf op.name fs) hi
                refine ⟨short_of fun g hg => ?_, ?_, ?_⟩
                · rcases mem_place (fs := withoutL (fs.eraseIdx (posOf op.name fs)) op.to) (f := ⟨op.to, fs[posOf op.name fs].data, fs[posOf op.name fs].synced⟩) hg with rfl | hg
                  · exact ⟨ht, hmem.2⟩
                  · exact short_mem h.short (List.mem_of_mem_eraseIdx (List.mem_filter.1 hg).1)
                · show (withL _ _).length ≤ _
                  have hpl : ∀ (l : List FileD) (f : FileD), (placeL l f).length = l.length + 1 := fun l f => by
                    induction l with
                    | nil => rfl
                    | cons g r ih => unfold placeL; split <;> simp [ih]
                  have : (withoutL (fs.eraseIdx (posOf op.name fs)) op.to).length ≤ (fs.eraseIdx (posOf op.name fs)).length := List.length_filter_le _ _
                  rw [withL, hpl]
                  simp only
                  omega
                · show sumLen (withL _ _) ≤ _
                  have := sumLen_filter (fun f => !(f.name.toList == op.to.toList)) (fs.eraseIdx (posOf op.name fs))
                  rw [withL, sumLen_place]
                  simp only [withoutL]
                  omega
              · refine ⟨short_of fun g hg => short_mem h.short (List.mem_of_mem_eraseIdx hg), ?_, ?_⟩
                · show (fs.eraseIdx _).length ≤ _
                  rw [List.length_eraseIdx]; split <;> omega
                · show sumLen (fs.eraseIdx _) ≤ _
                  have := sumLen_erase fs (posOf op.name fs)
                  omega

theorem fit_step {D : DiskD} {op : OpD} (h : Fit D.fs) (hn : op.name.size ≤ maxLen) (ht : op.to.size ≤ maxLen) : Fit (stepD D op).1.fs := by
  show Fit (outR D.fs D.c D.k D.cr D.fl D.dn op).2.1
  unfold outR
  split
  · rename_i hq
    simp only [Bool.and_eq_true] at hq
    obtain ⟨_, h1, _, h3, _⟩ := files_of_disk hq.1
    unfold stepR
    split
    · exact fit_do h h1 h3 hn ht
    · exact h
  · exact fit_nil

def logB (L : LogD) : Bool := btwB L.last 1 999999 && btwB L.first 1 L.last && btwB L.size 0 1000000000
def opCreate (n : Int) : OpD := ⟨1, segS n, ⟨#[]⟩, ⟨#[]⟩, 0⟩
def opAppend (n : Int) (f : ByteArray) : OpD := ⟨2, segS n, ⟨#[]⟩, f, 0⟩
def opSync (n : Int) : OpD := ⟨3, segS n, ⟨#[]⟩, ⟨#[]⟩, 0⟩
def opCut (n : Int) (z : Int) : OpD := ⟨4, segS n, ⟨#[]⟩, ⟨#[]⟩, z⟩

/-- LogAppend from its second step on. -/
def appendT (D : DiskD) (L : LogD) (f : ByteArray) : DiskD × LogD × Nat :=
  if (stepD D (opAppend L.last f)).2 ≠ 0 then ((stepD D (opAppend L.last f)).1, L, (stepD D (opAppend L.last f)).2)
  else if (stepD (stepD D (opAppend L.last f)).1 (opSync L.last)).2 ≠ 0 then ((stepD (stepD D (opAppend L.last f)).1 (opSync L.last)).1, L, (stepD (stepD D (opAppend L.last f)).1 (opSync L.last)).2)
  else ((stepD (stepD D (opAppend L.last f)).1 (opSync L.last)).1, ⟨L.first, L.last, L.size + f.size⟩, 0)
def appendD (D : DiskD) (L : LogD) (p : ByteArray) (most : Int) : DiskD × LogD × Nat :=
  if (logB L && btwB most 1 1000000000) = false then (D, L, 21)
  else if frameS p = ByteArray.empty then (D, L, 22)
  else if L.size ≠ 0 ∧ most < L.size + (frameS p).size then
    if L.last = 999999 then (D, L, 23)
    else if (stepD D (opCreate (L.last + 1))).2 ≠ 0 then ((stepD D (opCreate (L.last + 1))).1, L, (stepD D (opCreate (L.last + 1))).2)
    else appendT (stepD D (opCreate (L.last + 1))).1 ⟨L.first, L.last + 1, 0⟩ (frameS p)
  else appendT D L (frameS p)

theorem append_new {D D1 : DiskD} {L : LogD} {p F : ByteArray} {most : Int} {x : Nat} (hF : frameS p = F) (h1 : ¬ (logB L && btwB most 1 1000000000) = false) (h2 : ¬ frameS p = ByteArray.empty) (h3 : L.size ≠ 0 ∧ most < L.size + F.size) (h4 : ¬ L.last = 999999) (hs : stepD D (opCreate (L.last + 1)) = (D1, x)) :
    appendD D L p most = if x ≠ 0 then (D1, L, x) else appendT D1 ⟨L.first, L.last + 1, 0⟩ F := by
  subst hF
  unfold appendD
  rw [if_neg h1, if_neg h2, if_pos h3, if_neg h4, hs]
theorem appendT_fail {D D1 : DiskD} {L : LogD} {f : ByteArray} {x : Nat} (hs : stepD D (opAppend L.last f) = (D1, x)) (hx : ¬ x = 0) : appendT D L f = (D1, L, x) := by
  unfold appendT
  rw [hs, if_pos hx]
theorem appendT_sync {D D1 D2 : DiskD} {L : LogD} {f : ByteArray} {x y : Nat} (hs : stepD D (opAppend L.last f) = (D1, x)) (hx : x = 0) (hs2 : stepD D1 (opSync L.last) = (D2, y)) : appendT D L f = if y ≠ 0 then (D2, L, y) else (D2, ⟨L.first, L.last, L.size + f.size⟩, 0) := by
  unfold appendT
  rw [hs, if_neg (by simp [hx])]
  simp only
  rw [hs2]
end Go.Proofs.YtflfopienjjlbaaGreatDoor

namespace Go.Proofs.YtflfopienjjlbaaGreatDoor
open Go.RowKit

/-- The log's three cells lie behind the drive's address. -/
def WrAt (w : World) (P D : Nat) (L : LogD) : Prop := Blk w P #[.pointer (some ⟨D, 0, none⟩), .int .i64 L.first, .int .i64 L.last, .int .i64 L.size] 68
theorem WrAt.later {w w' : World} {P D : Nat} {L : LogD} (h : WrAt w P D L) (hb : Below w.heap.size w w') : WrAt w' P D L := Blk.later h hb
theorem WrAt.cells {w : World} {P D : Nat} {L : LogD} (h : WrAt w P D L) : w.cell? ⟨P, 0, none⟩ = some (.pointer (some ⟨D, 0, none⟩)) ∧ w.cell? ⟨P, 1, none⟩ = some (.int .i64 L.first) ∧ w.cell? ⟨P, 2, none⟩ = some (.int .i64 L.last) ∧ w.cell? ⟨P, 3, none⟩ = some (.int .i64 L.size) := by
  refine ⟨?_, ?_, ?_, ?_⟩ <;> rw [Blk.cell h] <;> rfl

set_option maxRecDepth 100000 in
set_option maxHeartbeats 1000000 in
theorem isLog_any (L : LogD) (w : World) : Calls Tryz.prog 72 #[.agg #[.int .i64 L.first, .int .i64 L.last, .int .i64 L.size]] w fun e w' => e = .returned (.bool (logB L)) ∧ Below w.heap.size w w' := by
  obtain ⟨a, b, c⟩ := L
  have HB : Hid (Below w.heap.size w (w.alloc (.cells #[.int .i64 a, .int .i64 b, .int .i64 c] 30))) := bnew _ _
  by_cases h1 : 1 ≤ a
  · by_cases h2 : a ≤ b
    · by_cases h3 : b ≤ 999999
      · have e : Hid (logB ⟨a, b, c⟩ = btwB c 0 1000000000) := by
          show _ = _
          have e1 : btwB b 1 999999 = true := by simp [btwB]; omega
          have e2 : btwB a 1 b = true := by simp [btwB]; omega
          simp only [logB, e1, e2, Bool.true_and]
        go_enter Tryz.func72, Tryz.ntmps72
        go_wp2_with fail
        refine (within_any _ _ _).mono ?_
        rintro e w' ⟨rfl, hw⟩; replace hw := hw.symm; subst hw
        go_wp2
        go_ret
        exact ⟨ret_bool e.out.symm, HB.out⟩
      · have e : Hid (logB ⟨a, b, c⟩ = false) := by
          show _ = _
          have e1 : btwB b 1 999999 = false := by simp [btwB]; omega
          simp [logB, e1]
        go_enter Tryz.func72, Tryz.ntmps72
        go_wp2
        go_ret
        exact ⟨ret_bool e.out.symm, HB.out⟩
    · have e : Hid (logB ⟨a, b, c⟩ = false) := by
        show _ = _
        have e1 : btwB a 1 b = false := by simp [btwB]; omega
        simp [logB, e1]
      go_enter Tryz.func72, Tryz.ntmps72
      go_wp2
      go_ret
      exact ⟨ret_bool e.out.symm, HB.out⟩
  · have e : Hid (logB ⟨a, b, c⟩ = false) := by
      show _ = _
      have e1 : btwB a 1 b = false := by simp [btwB]; omega
      simp [logB, e1]
    go_enter Tryz.func72, Tryz.ntmps72
    go_wp2
    go_ret
    exact ⟨ret_bool e.out.symm, HB.out⟩

def fullB (L : LogD) (z most : Int) : Bool := decide (L.size ≠ 0) && decide (most < L.size + z)

set_option maxRecDepth 100000 in
set_option maxHeartbeats 1000000 in
theorem full_any (P D : Nat) (L : LogD) (z most : Int) (w : World) (h : WrAt w P D L) (h0 : 0 ≤ L.size ∧ L.size ≤ 1000000000) (hz : 0 ≤ z ∧ z ≤ 1000000000) :
    Calls Tryz.prog 73 #[.pointer (some ⟨P, 0, none⟩), .int .i64 z, .int .i64 most] w fun e w' => e = .returned (.bool (fullB L z most)) ∧ w' = w := by
  obtain ⟨c0, c1, c2, c3⟩ := h.cells
  clear h c0 c1 c2
  obtain ⟨a, b, c⟩ := L
  simp only at h0 c3
  have hw : IntKind.i64.wrap (c + z) = c + z := by rw [IntKind.wrap_i64]; omega
  by_cases h1 : c = 0
  · subst h1
    have e : Hid (fullB ⟨a, b, 0⟩ z most = false) := by show _ = _; simp [fullB]
    go_enter Tryz.func73, Tryz.ntmps73
    go_wp2
    go_ret
    exact ⟨ret_bool e.out.symm, rfl⟩
  · have h1b : (c == 0) = false := by simpa using h1
    have e : Hid (fullB ⟨a, b, c⟩ z most = decide (most < c + z)) := by show _ = _; simp [fullB, h1]
    go_enter Tryz.func73, Tryz.ntmps73
    go_wp2
    go_ret
    exact ⟨ret_bool (by rw [e.out]; simp [h1]), rfl⟩
end Go.Proofs.YtflfopienjjlbaaGreatDoor

namespace Go.Proofs.YtflfopienjjlbaaGreatDoor
open Go.RowKit

/-- What speaks against a payload ahead of the disk. -/
def refR (L : LogD) (p : ByteArray) (most : Int) : Nat :=
  if (logB L && btwB most 1 1000000000) = false then 21
  else if btwB p.size 1 60000 = false then 22
  else if L.last = 999999 ∧ fullB L (8 + p.size) most = true then 23 else 0

theorem log_size {L : LogD} (h : logB L = true) : 0 ≤ L.size ∧ L.size ≤ 1000000000 ∧ 1 ≤ L.first ∧ L.first ≤ L.last ∧ 1 ≤ L.last ∧ L.last ≤ 999999 := by
  simp only [logB, btwB, Bool.and_eq_true, decide_eq_true_eq] at h
  omega

set_option maxRecDepth 100000 in
set_option maxHeartbeats 2000000 in
theorem refuse_any (P D : Nat) (L : LogD) (p : ByteArray) (most : Int) (w : World) (h : WrAt w P D L) (hp : p.size ≤ 1048576) :
    Calls Tryz.prog 45 #[.pointer (some ⟨P, 0, none⟩), .string p, .int .i64 most] w fun e w' => e = .returned (errW (refR L p most)) ∧ Below w.heap.size w w' := by
  obtain ⟨c0, c1, c2, c3⟩ := h.cells
  have HW : Hid (WrAt w P D L) := h
  clear h c0
  have HL : Hid (∀ W, Calls Tryz.prog 72 #[.agg #[.int .i64 L.first, .int .i64 L.last, .int .i64 L.size]] W fun e w' => e = .returned (.bool (logB L)) ∧ Below W.heap.size W w') := fun W => isLog_any L W
  have HF : Hid (∀ W, Calls Tryz.prog 42 #[.int .i64 (p.size : Int)] W fun e w' => e = .returned (.bool (btwB p.size 1 60000)) ∧ w' = W) := fun W => fits_any _ W
  cases hl : logB L with
  | false =>
    have E : Hid (refR L p most = 21) := by show _ = _; rw [refR, hl]; rfl
    rw [hl] at HL
    clear hl
    go_enter Tryz.func45, Tryz.ntmps45
    go_wp2_with fail
    refine (HL.out _).mono ?_
    rintro e w1 ⟨rfl, hb1⟩
    have HB : Hid (Below w.heap.size w w1) := hb1
    clear hb1
    go_wp2
    go_ret
    rw [E.out]
    exact ⟨rfl, HB.out⟩
  | true =>
    obtain ⟨hs0, hs1, _, _, hl1, hl2⟩ := log_size hl
    rw [hl] at HL
    by_cases hm : 1 ≤ most ∧ most ≤ 1000000000
    · have hmb : btwB most 1 1000000000 = true := by simp [btwB]; omega
      cases hf : btwB p.size 1 60000 with
      | false =>
        have E : Hid (refR L p most = 22) := by show _ = _; simp [refR, hl, hmb, hf]
        rw [hf] at HF
        clear hf hl hmb
        go_enter Tryz.func45, Tryz.ntmps45
        go_wp2_with fail
        refine (HL.out _).mono ?_
        rintro e w1 ⟨rfl, hb1⟩
        have HB : Hid (Below w.heap.size w w1) := hb1
        clear hb1
        go_wp2_with fail
        refine (HF.out _).mono ?_
        rintro e w' ⟨rfl, hw⟩; replace hw := hw.symm; subst hw
        go_wp2
        go_ret
        rw [E.out]
        exact ⟨rfl, HB.out⟩
      | true =>
        have hz : 1 ≤ p.size ∧ p.size ≤ 60000 := by
          simp only [btwB, Bool.and_eq_true, decide_eq_true_eq] at hf; omega
        have E0 : Hid (refR L p most = if L.last = 999999 ∧ fullB L (8 + p.size) most = true then 23 else 0) := by show _ = _; simp [refR, hl, hmb, hf]
        rw [hf] at HF
        clear hf hl hmb
        go_enter Tryz.func45, Tryz.ntmps45
        go_wp2_with fail
        refine (HL.out _).mono ?_
        rintro e w1 ⟨rfl, hb1⟩
        have HB : Hid (Below w.heap.size w w1) := hb1
        have HW1 : Hid (WrAt w1 P D L) := HW.out.later hb1
        obtain ⟨_, _, d2, _⟩ := HW1.out.cells
        clear hb1 c1 c2 c3
        go_wp2_with fail
        refine (HF.out _).mono ?_
        rintro e w' ⟨rfl, hw⟩; replace hw := hw.symm; subst hw
        by_cases h9 : L.last = 999999
        · have h9b : (L.last == 999999) = true := by simpa using h9
          cases hfu : fullB L (8 + p.size) most with
          | true =>
            have E : Hid (refR L p most = 23) := by show _ = _; rw [E0.out, if_pos ⟨h9, hfu⟩]
            have HFU : Hid (Calls Tryz.prog 73 #[.pointer (some ⟨P, 0, none⟩), .int .i64 (8 + (p.size : Int)), .int .i64 most] w1 fun e w' => e = .returned (.bool true) ∧ w' = w1) := by
              have := full_any P D L (8 + (p.size : Int)) most w1 HW1.out ⟨hs0, hs1⟩ (by omega)
              rw [hfu] at this
              exact this
            clear hfu h9
            go_wp2_with fail
            refine HFU.out.mono ?_
            rintro e w' ⟨rfl, hw⟩; replace hw := hw.symm; subst hw
            go_wp2
            go_ret
            rw [E.out]
            exact ⟨rfl, HB.out⟩
          | false =>
            have E : Hid (refR L p most = 0) := by show _ = _; rw [E0.out, if_neg (fun h => by rw [hfu] at h; cases h.2)]
            have HFU : Hid (Calls Tryz.prog 73 #[.pointer (some ⟨P, 0, none⟩), .int .i64 (8 + (p.size : Int)), .int .i64 most] w1 fun e w' => e = .returned (.bool false) ∧ w' = w1) := by
              have := full_any P D L (8 + (p.size : Int)) most w1 HW1.out ⟨hs0, hs1⟩ (by omega)
              rw [hfu] at this
              exact this
            clear hfu h9
            go_wp2_with fail
            refine HFU.out.mono ?_
            rintro e w' ⟨rfl, hw⟩; replace hw := hw.symm; subst hw
            go_wp2
            go_ret
            rw [E.out]
            exact ⟨rfl, HB.out⟩
        · have h9b : (L.last == 999999) = false := by simpa using h9
          have E : Hid (refR L p most = 0) := by show _ = _; rw [E0.out, if_neg (fun h => h9 h.1)]
          clear h9
          go_wp2
          go_ret
          rw [E.out]
          exact ⟨rfl, HB.out⟩
    · have E : Hid (refR L p most = 21) := by
        show _ = _
        have hmb : btwB most 1 1000000000 = false := by simp [btwB]; omega
        simp [refR, hmb]
      by_cases hm1 : most < 1
      · go_enter Tryz.func45, Tryz.ntmps45
        go_wp2_with fail
        refine (HL.out _).mono ?_
        rintro e w1 ⟨rfl, hb1⟩
        have HB : Hid (Below w.heap.size w w1) := hb1
        clear hb1
        go_wp2
        go_ret
        rw [E.out]
        exact ⟨rfl, HB.out⟩
      · have hm2 : 1000000000 < most := by omega
        clear hm
        go_enter Tryz.func45, Tryz.ntmps45
        go_wp2_with fail
        refine (HL.out _).mono ?_
        rintro e w1 ⟨rfl, hb1⟩
        have HB : Hid (Below w.heap.size w w1) := hb1
        clear hb1
        go_wp2
        go_ret
        rw [E.out]
        exact ⟨rfl, HB.out⟩
end Go.Proofs.YtflfopienjjlbaaGreatDoor

namespace Go.Proofs.YtflfopienjjlbaaGreatDoor
open Go.RowKit

theorem filesB_of {fs : List FileD} (h1 : ∀ f ∈ fs, fileB f = true) (h2 : Asc fs) : filesB fs = true := by
  simp only [filesB, okTo, List.all_eq_true, List.mem_range]
  intro i hi
  unfold okAt
  rw [List.getElem?_eq_getElem hi]
  simp only [h1 _ (List.getElem_mem hi), Bool.true_and]
  cases i with
  | zero => rfl
  | succ j =>
    simp only [List.getElem?_eq_getElem (show j < fs.length by omega)]
    exact h2 j (j + 1) (by omega) hi
theorem fileB_of {fs : List FileD} (h : filesB fs = true) : ∀ f ∈ fs, fileB f = true := by
  intro f hf
  obtain ⟨i, hi, rfl⟩ := List.getElem_of_mem hf
  simp only [filesB, okTo, List.all_eq_true, List.mem_range] at h
  have := h i hi
  unfold okAt at this
  rw [List.getElem?_eq_getElem hi] at this
  simp only [Bool.and_eq_true] at this
  exact this.1
def ltF (a b : FileD) : Prop := Op.bytesLess a.name.toList b.name.toList = true
theorem asc_pair {fs : List FileD} : Asc fs ↔ fs.Pairwise ltF := by
  rw [List.pairwise_iff_getElem]
  exact ⟨fun h i j _ hj hij => h i j hij hj, fun h i j hij hj => h i j (by omega) hj hij⟩
theorem asc_ins {fs : List FileD} {f : FileD} (h : Asc fs) (hno : hasB fs f.name (posOf f.name fs) = false) : Asc (insL fs (posOf f.name fs) f) := by
  have hp := posOf_is f.name h
  have hne := hasB_none h hno
  have h' := asc_pair.1 h
  rw [← List.take_append_drop (posOf f.name fs) fs, List.pairwise_append] at h'
  rw [asc_pair, insL, List.pairwise_append, List.pairwise_cons]
  refine ⟨h'.1, ⟨fun b hb => ?_, h'.2.1⟩, fun a ha b hb => ?_⟩
  · obtain ⟨j, hj, rfl⟩ := List.getElem_of_mem hb
    rw [List.length_drop] at hj
    rw [List.getElem_drop]
    have h1 := hp.2.2 (posOf f.name fs + j) (by omega) (by omega)
    exact less_total _ _ h1 (fun e => hne _ (by omega) (toList_inj e))
  · rcases List.mem_cons.1 hb with rfl | hb
    · obtain ⟨j, hj, rfl⟩ := List.getElem_of_mem ha
      rw [List.length_take] at hj
      rw [List.getElem_take]
      exact hp.2.1 j (by omega) (by omega)
    · exact h'.2.2 a ha b hb
theorem asc_set {fs : List FileD} {i : Nat} {f : FileD} (h : Asc fs) (hi : i < fs.length) (hn : f.name = fs[i].name) : Asc (fs.set i f) := by
  have hget : ∀ a (ha : a < (fs.set i f).length) (ha' : a < fs.length), (fs.set i f)[a].name = fs[a].name := fun a ha ha' => by
    rw [List.getElem_set]
    split
    · rename_i e; subst e; exact hn
    · rfl
  intro a b hab hb
  have hb' : b < fs.length := by simpa using hb
  rw [hget a (by omega) (by omega), hget b hb hb']
  exact h a b hab hb'
theorem fileB_mk {n d : ByteArray} {s : Int} (hn : nameB n = true) (h0 : 0 ≤ s) (h1 : s ≤ d.size) : fileB ⟨n, d, s⟩ = true := by
  simp [fileB, btwB, hn, h0, h1]
theorem mem_set_or {fs : List FileD} {i : Nat} {f g : FileD} (h : g ∈ fs.set i f) : g = f ∨ g ∈ fs := (List.mem_or_eq_of_mem_set h).symm

theorem diskB_mk {fs : List FileD} {c k cr fl : Int} (h1 : fs.length ≤ 1000) (h2 : filesB fs = true) (h3 : 0 ≤ c ∧ c ≤ 1000000000) (h4 : (sumLen fs : Int) ≤ c) (h5 : 0 ≤ k ∧ k ≤ 1000000000000000) (h6 : 0 ≤ cr ∧ cr ≤ 1000000000000000) (h7 : 0 ≤ fl ∧ fl ≤ 1000000000000000) : diskB fs c k cr fl = true := by
  simp [diskB, btwB, h1, h2, h3, h4, h5, h6, h7]

theorem do_valid {fs : List FileD} {c : Int} {op : OpD} (hf : filesB fs = true) (hl : fs.length ≤ 1000) (hs : (sumLen fs : Int) ≤ c) (ho : nameB op.name = true) (hk : op.kind ≤ 4) (hk1 : 1 ≤ op.kind) :
    filesB (doR fs c op).2 = true ∧ (doR fs c op).2.length ≤ 1000 ∧ (sumLen (doR fs c op).2 : Int) ≤ c := by
  have ha := asc_of hf
  have hb := fileB_of hf
  unfold doR
  simp only
  split
  · split
    · exact ⟨hf, hl, hs⟩
    · rename_i hno
      split
      · exact ⟨hf, hl, hs⟩
      · rename_i hlt
        have hp := posOf_is op.name ha
        refine ⟨filesB_of (fun f hm => ?_) (asc_ins (f := ⟨op.name, ByteArray.empty, 0⟩) ha (by simpa using hno)), ?_, ?_⟩
        · simp only [insL, List.mem_append, List.mem_cons] at hm
          rcases hm with hm | rfl | hm
          · exact hb _ (List.mem_of_mem_take hm)
          · exact fileB_mk ho (by omega) (by simp)
          · exact hb _ (List.mem_of_mem_drop hm)
        · rw [insL_length _ _ _ hp.1]; omega
        · rw [sumLen_ins]; simpa using hs
  · split
    · exact ⟨hf, hl, hs⟩
    · rename_i f hfi
      obtain ⟨hi, rfl⟩ := List.getElem?_eq_some_iff.1 hfi
      have hbi := hb _ (List.getElem_mem hi)
      simp only [fileB, btwB, Bool.and_eq_true, decide_eq_true_eq] at hbi
      split
      · exact ⟨hf, hl, hs⟩
      · split
        · split
          · exact ⟨hf, hl, hs⟩
          · rename_i hc
            have hset := sumLen_set fs (posOf op.name fs) ⟨fs[posOf op.name fs].name, fs[posOf op.name fs].data ++ op.data, fs[posOf op.name fs].synced⟩ hi
            simp only [ByteArray.size_append] at hset
            refine ⟨filesB_of (fun g hg => ?_) (asc_set ha hi rfl), by simpa using hl, by simp only; omega⟩
            rcases mem_set_or hg with rfl | hg
            · exact fileB_mk hbi.1 hbi.2.1 (by rw [ByteArray.size_append]; omega)
            · exact hb _ hg
        · split
          · have hset := sumLen_set fs (posOf op.name fs) ⟨fs[posOf op.name fs].name, fs[posOf op.name fs].data, fs[posOf op.name fs].data.size⟩ hi
            simp only at hset
            refine ⟨filesB_of (fun g hg => ?_) (asc_set ha hi rfl), by simpa using hl, by simp only; omega⟩
            rcases mem_set_or hg with rfl | hg
            · exact fileB_mk hbi.1 (by omega) (by omega)
            · exact hb _ hg
          · split
            · split
              · rename_i hz
                simp only [btwB, Bool.and_eq_true, decide_eq_true_eq] at hz
                have hset := sumLen_set fs (posOf op.name fs) ⟨fs[posOf op.name fs].name, fs[posOf op.name fs].data.extract 0 op.size.toNat, op.size⟩ hi
                simp only at hset
                have hx : (fs[posOf op.name fs].data.extract 0 op.size.toNat).size = op.size.toNat := by rw [ByteArray.size_extract]; omega
                refine ⟨filesB_of (fun g hg => ?_) (asc_set ha hi rfl), by simpa using hl, by simp only; omega⟩
                rcases mem_set_or hg with rfl | hg
                · exact fileB_mk hbi.1 hz.1 (by rw [hx]; omega)
                · exact hb _ hg
              · exact ⟨hf, hl, hs⟩
            · exfalso; omega

theorem charge_valid {k cr fl : Int} {dn : Bool} (h0 : 0 ≤ k) (h1 : k ≤ 1000000000000000) : 0 ≤ (chargeR k cr fl dn).2.1 ∧ (chargeR k cr fl dn).2.1 ≤ 1000000000000000 := by
  unfold chargeR
  split
  · exact ⟨h0, h1⟩
  · split
    · exact ⟨h0, h1⟩
    · split
      · simp only; omega
      · split <;> (simp only; omega)

theorem diskB_step {fs : List FileD} {c k cr fl : Int} {dn : Bool} {op : OpD} (h : diskB fs c k cr fl = true) (ho : opB op = true) (hk : op.kind ≤ 4) :
    diskB (stepR fs c k cr fl dn op).2.1 c (stepR fs c k cr fl dn op).2.2.1 cr fl = true := by
  obtain ⟨h1, h2, h3, h4, h5, h6, h7, h8, h9, h10, h11⟩ := files_of_disk h
  have hop : nameB op.name = true ∧ 1 ≤ op.kind := by
    simp only [opB, btwB, Bool.and_eq_true, decide_eq_true_eq] at ho
    exact ⟨ho.1.2, ho.1.1.1⟩
  have hc := charge_valid (cr := cr) (fl := fl) (dn := dn) h6 h7
  unfold stepR
  split
  · obtain ⟨d1, d2, d3⟩ := do_valid (op := op) h1 h2 h5 hop.1 hk hop.2
    exact diskB_mk d2 d1 ⟨h3, h4⟩ d3 hc ⟨h8, h9⟩ ⟨h10, h11⟩
  · exact diskB_mk h2 h1 ⟨h3, h4⟩ h5 hc ⟨h8, h9⟩ ⟨h10, h11⟩
end Go.Proofs.YtflfopienjjlbaaGreatDoor

namespace Go.Proofs.YtflfopienjjlbaaGreatDoor
open Go.RowKit

set_option maxRecDepth 100000 in
set_option maxHeartbeats 1000000 in
theorem implCrc_any (s : ByteArray) (w : World) (hs : s.size ≤ maxLen) :
    Calls Tryz.prog 44 #[.string s] w fun e w' => e = .returned (.int .i64 (crcV s : Nat)) ∧ Below w.heap.size w w' := by
  have HS : Hid (s.size ≤ maxLen) := hs
  clear hs
  go_enter Tryz.func44, Tryz.ntmps44
  go_wp2_with fail
  refine (makeTab_any _).mono ?_
  rintro e w1 ⟨b, cur, rfl, _, hB, hcur, hb1⟩
  have HB : Hid (Blk w1 b cur 133 ∧ (∀ i, i < 256 → cur[i]? = some (.int .u32 (crcT i : Nat))) ∧ Below w.heap.size w w1) := ⟨hB, hcur, hb1⟩
  clear hB hcur hb1
  go_wp2_with fail
  refine (tabSum_any b cur s _ HS.out HB.out.1 HB.out.2.1).mono ?_
  rintro e w2 ⟨rfl, hb2⟩
  have HB2 : Hid (Below w.heap.size w w2) := bto HB.out.2.2 hb2
  clear hb2
  go_wp2
  go_ret
  exact ⟨rfl, HB2.out⟩
end Go.Proofs.YtflfopienjjlbaaGreatDoor

namespace Go.Proofs.YtflfopienjjlbaaGreatDoor
open Go.RowKit

theorem shrN_pow (v : Int) : ∀ k, shrN v k = v / 2 ^ (8 * k)
  | 0 => by simp [shrN]
  | k + 1 => by
    rw [shrN, shrN_pow v k, show 8 * (k + 1) = 8 * k + 8 by omega, Int.pow_add, Int.ediv_ediv_of_nonneg (Int.pow_nonneg (by omega))]
    rfl
theorem numI_get (v : Int) : ∀ n i, i < n → (numI v n)[i]? = some (shrN v (n - 1 - i) % 256)
  | 0, i, h => absurd h (by omega)
  | n + 1, 0, _ => by simp [numI]
  | n + 1, i + 1, h => by
    rw [numI, List.getElem?_cons_succ, numI_get v n i (by omega)]
    congr 3
    omega

set_option maxRecDepth 100000 in
set_option maxHeartbeats 1000000 in
theorem implHigh_any (n : Nat) (v : Int) (w : World) (hn : n ≤ 8) :
    Calls Tryz.prog 43 #[.int .i64 v, .int .i64 n] w fun e w' => e = .returned (.string (numS n v)) ∧ Below w.heap.size w w' := by
  obtain ⟨C, hC, hmk⟩ : ∃ C : Array Value, C.size = n ∧ (Instr.makeSlice 41 (.int .i64 n) (.int .i64 n)).run Tryz.prog w = .ok (.slice (some ⟨w.heap.size, 0, none⟩) n n) (w.alloc (.cells C 5)) := by
    obtain ⟨ti, hti, hz0, hz1, hz2⟩ := info_u8
    have h := run_make (P := Tryz.prog) w 41 5 ti _ Tryz.underlying41 hti hz0 .i64 .i64 (n : Int) (n : Int) (by omega) (by omega) (by rw [hz2]; omega) (by omega)
    rw [hz1, Int.toNat_natCast, Nat.mul_one] at h
    exact ⟨_, size_madeCells _ _, h⟩
  have HB : Hid (Blk (w.alloc (.cells C 5)) w.heap.size C 5) := heap_alloc_new _ _
  go_enter Tryz.func43, Tryz.ntmps43
  go_wp2
  go_loopw [6, 11] (fun _ c wr => ∃ (k : Nat) (cur : Array Value), k ≤ n ∧ c = .int .i64 k ∧ Hid (Blk wr w.heap.size cur 5) ∧ cur.size = n ∧ Hid (∀ i, i < k → cur[n - 1 - i]? = some (.int .u8 (shrN v i % 256))) ∧ Hid (Below w.heap.size w wr)) (fun _ c _ => n - (intOf c).toNat)
  case atStart => exact ⟨0, C, by omega, rfl, HB, hC, fun i hi => absurd hi (by omega), bnew _ _⟩
  case round =>
    obtain ⟨k, cur, hk, rfl, hblk, hcs, hcur, hbel⟩ := hrel
    by_cases hlt : k < n
    · obtain ⟨p, hp, hpn⟩ : ∃ p : Nat, (n : Int) - 1 - (k : Int) = (p : Int) ∧ Hid (p = n - 1 - k) := ⟨n - 1 - k, by omega, rfl⟩
      have hc : wr.cell? ⟨w.heap.size, p, none⟩ = some (cur[p]'(by have := hpn.out; omega)) := by rw [hblk.out.cell]; exact Array.getElem?_eq_getElem _
      have hf := hblk.out.free p
      go_wp2
      refine ⟨⟨k + 1, cur.setIfInBounds p (.int .u8 (v / 2 ^ (8 * k) % 256)), by omega, by go_num, hblk.out.set p _, by simp [hcs], ?_, hbel.out.setCell (p := ⟨w.heap.size, p, none⟩) (Nat.le_refl _) _⟩, by simp [intOf]; omega⟩
      intro i hi
      have hp2 := hpn.out
      rw [Array.getElem?_setIfInBounds]
      split
      · rename_i e
        have e2 : i = k := by omega
        subst e2
        rw [if_pos (by omega), shrN_pow]
      · rename_i e
        exact hcur.out i (by omega)
    · have e : k = n := by omega
      subst e
      have hcv : (convert 41 9 (.slice (some ⟨w.heap.size, 0, none⟩) k k)).run Tryz.prog wr = .ok (.string (numS k v)) wr := by
        refine run_convert_bytes_arg wr 41 5 Tryz.underlying41 Tryz.underlying5 w.heap.size 0 _ _ (numI v k) (numI_length v k) (fun i hi => ?_) 9 Tryz.underlying9
        rw [hblk.out.cell, Nat.zero_add]
        have h2 := hcur.out (k - 1 - i) (by omega)
        rw [show k - 1 - (k - 1 - i) = i by omega] at h2
        rw [h2]
        have h3 := numI_get v k i (by omega)
        simp [List.getD, h3]
      go_wp2
      go_ret
      exact ⟨rfl, hbel.out⟩
end Go.Proofs.YtflfopienjjlbaaGreatDoor

namespace Go.Proofs.YtflfopienjjlbaaGreatDoor
open Go.RowKit

set_option maxRecDepth 100000 in
set_option maxHeartbeats 1000000 in
theorem implFrame_any (p : ByteArray) (w : World) (hs : p.size ≤ maxLen) :
    Calls Tryz.prog 17 #[.string p] w fun e w' => e = .returned (.string (frameS p)) ∧ Below w.heap.size w w' := by
  have HS : Hid (p.size ≤ maxLen) := hs
  unfold maxLen at hs
  have HF : Hid (∀ W, Calls Tryz.prog 42 #[.int .i64 (p.size : Int)] W fun e w' => e = .returned (.bool (btwB p.size 1 60000)) ∧ w' = W) := fun W => fits_any _ W
  by_cases h : 1 ≤ p.size ∧ p.size ≤ 60000
  · have hb : btwB p.size 1 60000 = true := by simp [btwB]; omega
    rw [hb] at HF
    have E : Hid (frameS p = numS 4 p.size ++ numS 4 (crcV p : Nat) ++ p) := if_pos h
    have h4 := numS_size 4 (p.size : Int)
    have h4' := numS_size 4 ((crcV p : Nat) : Int)
    have H1 : Hid (∀ W, Calls Tryz.prog 43 #[.int .i64 (p.size : Int), .int .i64 4] W fun e w' => e = .returned (.string (numS 4 p.size)) ∧ Below W.heap.size W w') := fun W => implHigh_any 4 _ W (by omega)
    have H2 : Hid (∀ W, Calls Tryz.prog 43 #[.int .i64 (crcV p : Nat), .int .i64 4] W fun e w' => e = .returned (.string (numS 4 (crcV p : Nat))) ∧ Below W.heap.size W w') := fun W => implHigh_any 4 _ W (by omega)
    generalize numS 4 (p.size : Int) = A at *
    generalize numS 4 ((crcV p : Nat) : Int) = B at *
    go_enter Tryz.func17, Tryz.ntmps17
    go_wp2_with (go_at_call 42; refine (HF.out _).mono ?_; rintro e w' ⟨rfl, hw⟩; replace hw := hw.symm; subst hw)
    refine (H1.out _).mono ?_
    rintro e w1 ⟨rfl, hb1⟩
    go_wp2_with fail
    refine (implCrc_any p _ HS.out).mono ?_
    rintro e w2 ⟨rfl, hb2⟩
    go_wp2_with fail
    refine (H2.out _).mono ?_
    rintro e w3 ⟨rfl, hb3⟩
    have HB : Hid (Below w.heap.size w w3) := bto (bto hb1 hb2) hb3
    clear hb1 hb2 hb3
    go_wp2
    go_ret
    exact ⟨ret_str E.out.symm, HB.out⟩
  · have hb : btwB p.size 1 60000 = false := by simp [btwB]; omega
    rw [hb] at HF
    have E : Hid (frameS p = ByteArray.empty) := if_neg h
    go_enter Tryz.func17, Tryz.ntmps17
    go_wp2_with (go_at_call 42; refine (HF.out _).mono ?_; rintro e w' ⟨rfl, hw⟩; replace hw := hw.symm; subst hw)
    go_ret
    exact ⟨ret_str E.out.symm, Below.refl _ _⟩
end Go.Proofs.YtflfopienjjlbaaGreatDoor

