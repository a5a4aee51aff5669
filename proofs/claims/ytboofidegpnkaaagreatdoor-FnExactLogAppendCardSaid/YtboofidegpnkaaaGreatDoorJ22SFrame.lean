import Derived.Test.YtboofidegpnkaaaGreatDoorJ16SStep
import Derived.Test.YtboofidegpnkaaaGreatDoorJ21SegL
import Derived.Test.YtboofidegpnkaaaGreatDoorProg
import Derived.Test.YtboofidegpnkaaaGreatDoorJ20Eq
import Derived.Test.YtboofidegpnkaaaGreatDoorJ01Btw
import Derived.Test.YtboofidegpnkaaaGreatDoorJ03Ord
namespace Go.Proofs.YtboofidegpnkaaaGreatDoor
open Go.RowKit
structure DiskD where
  fs : List FileD
  c : Int
  k : Int
  cr : Int
  fl : Int
  dn : Bool
structure LogD where
  first : Int
  last : Int
  size : Int
def stepD (D : DiskD) (op : OpD) : DiskD × Nat :=
  (⟨(outR D.fs D.c D.k D.cr D.fl D.dn op).2.1, (outR D.fs D.c D.k D.cr D.fl D.dn op).2.2.1, (outR D.fs D.c D.k D.cr D.fl D.dn op).2.2.2.1, (outR D.fs D.c D.k D.cr D.fl D.dn op).2.2.2.2.1, (outR D.fs D.c D.k D.cr D.fl D.dn op).2.2.2.2.2.1, (outR D.fs D.c D.k D.cr D.fl D.dn op).2.2.2.2.2.2⟩, (outR D.fs D.c D.k D.cr D.fl D.dn op).1)
structure Fit (fs : List FileD) : Prop where
  short : Short fs
  len : fs.length ≤ 1048576
  sum : sumLen fs ≤ 1000000000
theorem fit_nil : Fit [] := ⟨fun i h => absurd h (by simp), by simp, by simp [sumLen]⟩
theorem sumLen_set (fs : List FileD) (i : Nat) (f : FileD) (h : i < fs.length) : sumLen (fs.set i f) + fs[i].data.size = sumLen fs + f.data.size := by
  induction fs generalizing i with
  | nil => exact absurd h (by simp)
  | cons g r ih =>
    cases i with
    | zero => simp [sumLen]; omega
    | succ i =>
      have := ih i (by simpa using h)
      simp only [List.set_cons_succ, List.getElem_cons_succ, sumLen]
      omega
theorem sumLen_mem {fs : List FileD} (i : Nat) (hi : i < fs.length) : fs[i].data.size ≤ sumLen fs := by
  have h1 := sumLen_take_succ fs i hi
  have h2 := sumLen_take_le fs (i + 1)
  omega
theorem short_mem {fs : List FileD} (h : Short fs) {f : FileD} (hf : f ∈ fs) : f.name.size ≤ maxLen ∧ f.data.size ≤ maxLen := by
  obtain ⟨i, hi, rfl⟩ := List.getElem_of_mem hf
  exact h i hi
theorem short_of {fs : List FileD} (h : ∀ f ∈ fs, f.name.size ≤ maxLen ∧ f.data.size ≤ maxLen) : Short fs := fun _ hi => h _ (List.getElem_mem hi)
theorem short_set {fs : List FileD} (h : Short fs) {i : Nat} {f : FileD} (hf : f.name.size ≤ maxLen ∧ f.data.size ≤ maxLen) : Short (fs.set i f) := short_of fun _ hg => by
  rcases List.mem_or_eq_of_mem_set hg with hg | rfl
  · exact short_mem h hg
  · exact hf
theorem sumLen_erase (fs : List FileD) (i : Nat) : sumLen (fs.eraseIdx i) ≤ sumLen fs := by
  induction fs generalizing i with
  | nil => simp
  | cons g r ih =>
    cases i with
    | zero => simp [sumLen]
    | succ i => have := ih i; simp only [List.eraseIdx_cons_succ, sumLen]; omega
theorem sumLen_eraseIdx (fs : List FileD) (i : Nat) (h : i < fs.length) : sumLen (fs.eraseIdx i) + fs[i].data.size = sumLen fs := by
  induction fs generalizing i with
  | nil => exact absurd h (by simp)
  | cons g r ih =>
    cases i with
    | zero => simp [sumLen]; omega
    | succ i =>
      have := ih i (by simpa using h)
      simp only [List.eraseIdx_cons_succ, List.getElem_cons_succ, sumLen]
      omega
theorem sumLen_filter (p : FileD → Bool) (fs : List FileD) : sumLen (fs.filter p) ≤ sumLen fs := by
  induction fs with
  | nil => simp
  | cons g r ih =>
    rw [List.filter_cons]
    split
    · simp only [sumLen]; omega
    · simp only [sumLen]; omega
theorem sumLen_place (fs : List FileD) (f : FileD) : sumLen (placeL fs f) = sumLen fs + f.data.size := by
  induction fs with
  | nil => simp [placeL, sumLen]
  | cons g r ih =>
    unfold placeL
    split
    · simp only [sumLen]; omega
    · simp only [sumLen, ih]; omega
theorem mem_place {fs : List FileD} {f g : FileD} (h : g ∈ placeL fs f) : g = f ∨ g ∈ fs := by
  induction fs with
  | nil => simp [placeL] at h; exact Or.inl h
  | cons x r ih =>
    unfold placeL at h
    split at h
    · simpa using h
    · rcases List.mem_cons.1 h with rfl | h
      · simp
      · rcases ih h with h | h
        · exact Or.inl h
        · exact Or.inr (List.mem_cons_of_mem _ h)
theorem sumLen_ins (fs : List FileD) (i : Nat) (f : FileD) : sumLen (insL fs i f) = sumLen fs + f.data.size := by
  have h := sumLen_append (fs.take i) (fs.drop i)
  rw [List.take_append_drop] at h
  rw [insL, sumLen_append]
  simp only [sumLen]
  omega
theorem fit_do {fs : List FileD} {c : Int} {op : OpD} (h : Fit fs) (h1 : fs.length ≤ 1000) (h3 : c ≤ 1000000000) (hn : op.name.size ≤ maxLen) (ht : op.to.size ≤ maxLen) : Fit (doR fs c op).2 := by
  have hM : (1000000000 : Nat) ≤ maxLen := by unfold maxLen; omega
  unfold doR
  simp only
  split
  · split
    · exact h
    · split
      · exact h
      · refine ⟨short_of fun f hf => ?_, ?_, ?_⟩
        · simp only [insL, List.mem_append, List.mem_cons] at hf
          rcases hf with hf | rfl | hf
          · exact short_mem h.short (List.mem_of_mem_take hf)
          · exact ⟨hn, by simp [maxLen]⟩
          · exact short_mem h.short (List.mem_of_mem_drop hf)
        · show (insL fs _ _).length ≤ _
          rw [insL]
          simp only [List.length_append, List.length_take, List.length_cons, List.length_drop]
          omega
        · show sumLen (insL fs _ _) ≤ _
          rw [sumLen_ins]
          have := h.sum
          simpa using this
  · split
    · exact h
    · rename_i f hf
      obtain ⟨hi, rfl⟩ := List.getElem?_eq_some_iff.1 hf
      have hmem := short_mem h.short (List.getElem_mem hi)
      have hle := sumLen_mem _ hi
      have hs := h.sum
      split
      · exact h
      · split
        · split
          · exact h
          · rename_i hc
            have hset := sumLen_set fs (posOf op.name fs) ⟨fs[posOf op.name fs].name, fs[posOf op.name fs].data ++ op.data, fs[posOf op.name fs].synced⟩ hi
            simp only [ByteArray.size_append] at hset
            refine ⟨short_set h.short ⟨hmem.1, ?_⟩, ?_, ?_⟩
            · show (fs[posOf op.name fs].data ++ op.data).size ≤ maxLen
              rw [ByteArray.size_append]
              omega
            · show (fs.set _ _).length ≤ _
              rw [List.length_set]; omega
            · show sumLen (fs.set _ _) ≤ _
              omega
        · split
          · have hset := sumLen_set fs (posOf op.name fs) ⟨fs[posOf op.name fs].name, fs[posOf op.name fs].data, fs[posOf op.name fs].data.size⟩ hi
            refine ⟨short_set h.short hmem, ?_, ?_⟩
            · show (fs.set _ _).length ≤ _
              rw [List.length_set]; omega
            · show sumLen (fs.set _ _) ≤ _
              simp only at hset
              omega
          · split
            · split
              · have hset := sumLen_set fs (posOf op.name fs) ⟨fs[posOf op.name fs].name, fs[posOf op.name fs].data.extract 0 op.size.toNat, op.size⟩ hi
                have hx : (fs[posOf op.name fs].data.extract 0 op.size.toNat).size ≤ fs[posOf op.name fs].data.size := by rw [ByteArray.size_extract]; omega
                refine ⟨short_set h.short ⟨hmem.1, ?_⟩, ?_, ?_⟩
                · show (fs[posOf op.name fs].data.extract 0 op.size.toNat).size ≤ maxLen
                  omega
                · show (fs.set _ _).length ≤ _
                  rw [List.length_set]; omega
                · show sumLen (fs.set _ _) ≤ _
                  simp only at hset
                  omega
              · exact h
            · split
              · have hlen : (fs.eraseIdx (posOf op.name fs)).length ≤ fs.length := by rw [List.length_eraseIdx]; split <;> omega
                have her := sumLen_eraseIdx fs (posOf op.name fs) hi
                refine ⟨short_of fun g hg => ?_, ?_, ?_⟩
                · rcases mem_place (fs := withoutL (fs.eraseIdx (posOf op.name fs)) op.to) (f := ⟨op.to, fs[posOf op.name fs].data, fs[posOf op.name fs].synced⟩) hg with rfl | hg
                  · exact ⟨ht, hmem.2⟩
                  · exact short_mem h.short (List.mem_of_mem_eraseIdx (List.mem_filter.1 hg).1)
                · show (withL _ _).length ≤ _
                  have hpl : ∀ (l : List FileD) (f : FileD), (placeL l f).length = l.length + 1 := fun l f => by
                    induction l with
                    | nil => rfl
                    | cons g r ih => unfold placeL; split <;> simp [ih]
                  have : (withoutL (fs.eraseIdx (posOf op.name fs)) op.to).length ≤ (fs.eraseIdx (posOf op.name fs)).length := List.length_filter_le _ _
                  rw [withL, hpl]
                  simp only
                  omega
                · show sumLen (withL _ _) ≤ _
                  have := sumLen_filter (fun f => !(f.name.toList == op.to.toList)) (fs.eraseIdx (posOf op.name fs))
                  rw [withL, sumLen_place]
                  simp only [withoutL]
                  omega
              · refine ⟨short_of fun g hg => short_mem h.short (List.mem_of_mem_eraseIdx hg), ?_, ?_⟩
                · show (fs.eraseIdx _).length ≤ _
                  rw [List.length_eraseIdx]; split <;> omega
                · show sumLen (fs.eraseIdx _) ≤ _
                  have := sumLen_erase fs (posOf op.name fs)
                  omega
theorem fit_step {D : DiskD} {op : OpD} (h : Fit D.fs) (hn : op.name.size ≤ maxLen) (ht : op.to.size ≤ maxLen) : Fit (stepD D op).1.fs := by
  show Fit (outR D.fs D.c D.k D.cr D.fl D.dn op).2.1
  unfold outR
  split
  · rename_i hq
    simp only [Bool.and_eq_true] at hq
    obtain ⟨_, h1, _, h3, _⟩ := files_of_disk hq.1
    unfold stepR
    split
    · exact fit_do h h1 h3 hn ht
    · exact h
  · exact fit_nil
def logB (L : LogD) : Bool := btwB L.last 1 999999 && btwB L.first 1 L.last && btwB L.size 0 1000000000
def opCreate (n : Int) : OpD := ⟨1, segS n, ⟨#[]⟩, ⟨#[]⟩, 0⟩
def opAppend (n : Int) (f : ByteArray) : OpD := ⟨2, segS n, ⟨#[]⟩, f, 0⟩
def opSync (n : Int) : OpD := ⟨3, segS n, ⟨#[]⟩, ⟨#[]⟩, 0⟩
def opCut (n : Int) (z : Int) : OpD := ⟨4, segS n, ⟨#[]⟩, ⟨#[]⟩, z⟩
def appendT (D : DiskD) (L : LogD) (f : ByteArray) : DiskD × LogD × Nat :=
  if (stepD D (opAppend L.last f)).2 ≠ 0 then ((stepD D (opAppend L.last f)).1, L, (stepD D (opAppend L.last f)).2)
  else if (stepD (stepD D (opAppend L.last f)).1 (opSync L.last)).2 ≠ 0 then ((stepD (stepD D (opAppend L.last f)).1 (opSync L.last)).1, L, (stepD (stepD D (opAppend L.last f)).1 (opSync L.last)).2)
  else ((stepD (stepD D (opAppend L.last f)).1 (opSync L.last)).1, ⟨L.first, L.last, L.size + f.size⟩, 0)
def appendD (D : DiskD) (L : LogD) (p : ByteArray) (most : Int) : DiskD × LogD × Nat :=
  if (logB L && btwB most 1 1000000000) = false then (D, L, 21)
  else if frameS p = ByteArray.empty then (D, L, 22)
  else if L.size ≠ 0 ∧ most < L.size + (frameS p).size then
    if L.last = 999999 then (D, L, 23)
    else if (stepD D (opCreate (L.last + 1))).2 ≠ 0 then ((stepD D (opCreate (L.last + 1))).1, L, (stepD D (opCreate (L.last + 1))).2)
    else appendT (stepD D (opCreate (L.last + 1))).1 ⟨L.first, L.last + 1, 0⟩ (frameS p)
  else appendT D L (frameS p)
theorem append_new {D D1 : DiskD} {L : LogD} {p F : ByteArray} {most : Int} {x : Nat} (hF : frameS p = F) (h1 : ¬ (logB L && btwB most 1 1000000000) = false) (h2 : ¬ frameS p = ByteArray.empty) (h3 : L.size ≠ 0 ∧ most < L.size + F.size) (h4 : ¬ L.last = 999999) (hs : stepD D (opCreate (L.last + 1)) = (D1, x)) :
    appendD D L p most = if x ≠ 0 then (D1, L, x) else appendT D1 ⟨L.first, L.last + 1, 0⟩ F := by
  subst hF
  unfold appendD
  rw [if_neg h1, if_neg h2, if_pos h3, if_neg h4, hs]
theorem appendT_fail {D D1 : DiskD} {L : LogD} {f : ByteArray} {x : Nat} (hs : stepD D (opAppend L.last f) = (D1, x)) (hx : ¬ x = 0) : appendT D L f = (D1, L, x) := by
  unfold appendT
  rw [hs, if_pos hx]
theorem appendT_sync {D D1 D2 : DiskD} {L : LogD} {f : ByteArray} {x y : Nat} (hs : stepD D (opAppend L.last f) = (D1, x)) (hx : x = 0) (hs2 : stepD D1 (opSync L.last) = (D2, y)) : appendT D L f = if y ≠ 0 then (D2, L, y) else (D2, ⟨L.first, L.last, L.size + f.size⟩, 0) := by
  unfold appendT
  rw [hs, if_neg (by simp [hx])]
  simp only
  rw [hs2]
end Go.Proofs.YtboofidegpnkaaaGreatDoor
namespace Go.Proofs.YtboofidegpnkaaaGreatDoor
open Go.RowKit
theorem apart_cells {w : World} {a : Option Addr} {fs : List FileD} {P : Nat} {cs : Array Value} {t : TypeId} (h : FilesIn w a fs) (hz : Blk w P cs t) (hn : ∀ (j : Nat) (s : ByteArray), cs[j]? ≠ some (Value.string s)) : Apart a fs P := by
  rcases h with h | ⟨b, o, e, _, h⟩
  · exact Or.inl h
  · by_cases hn' : fs = []
    · exact Or.inl hn'
    · refine Or.inr ⟨b, o, e, fun hb => ?_⟩
      subst hb
      have hl : 0 < fs.length := List.length_pos_iff.2 hn'
      have h0 := (h 0 hl).1
      rw [hz.cell] at h0
      exact hn _ _ h0
theorem apart_disk {w : World} {a : Option Addr} {fs : List FileD} {P : Nat} {x : Option Addr} {n cp : Nat} {i1 i2 i3 i4 : Int} {k1 k2 k3 k4 : IntKind} {b : Bool} {t : TypeId} (h : FilesIn w a fs) (hz : Blk w P #[.slice x n cp, .int k1 i1, .int k2 i2, .int k3 i3, .int k4 i4, .bool b] t) : Apart a fs P :=
  apart_cells h hz fun j _ => by
    match j with
    | 0 => simp
    | 1 => simp
    | 2 => simp
    | 3 => simp
    | 4 => simp
    | 5 => simp
    | n + 6 => simp
theorem apart_log {w : World} {a : Option Addr} {fs : List FileD} {P : Nat} {i1 i2 i3 : Int} {k1 k2 k3 : IntKind} {t : TypeId} (h : FilesIn w a fs) (hz : Blk w P #[.int k1 i1, .int k2 i2, .int k3 i3] t) : Apart a fs P :=
  apart_cells h hz fun j _ => by
    match j with
    | 0 => simp
    | 1 => simp
    | 2 => simp
    | n + 3 => simp
theorem Blk.three {w : World} {b : Nat} {v0 v1 v2 : Value} {t : TypeId} (h : Blk w b #[v0, v1, v2] t) : w.cell? ⟨b, 0, none⟩ = some v0 ∧ w.cell? ⟨b, 1, none⟩ = some v1 ∧ w.cell? ⟨b, 2, none⟩ = some v2 := by
  simp [h.cell]
theorem fourBoxes {w w1 : World} {x y z u : Array Value} {tx ty tz tu : TypeId} (hb : Below ((((w.alloc (.cells x tx)).alloc (.cells y ty)).alloc (.cells z tz)).alloc (.cells u tu)).heap.size ((((w.alloc (.cells x tx)).alloc (.cells y ty)).alloc (.cells z tz)).alloc (.cells u tu)) w1) :
    Blk w1 w.heap.size x tx ∧ Blk w1 (w.heap.size + 1) y ty ∧ Blk w1 (w.heap.size + 1 + 1) z tz ∧ Blk w1 (w.heap.size + 1 + 1 + 1) u tu ∧ Below w.heap.size w w1 := by
  refine ⟨?_, ?_, ?_, ?_, bto (bto (bto (bto (bnew _ _) (bnew _ _)) (bnew _ _)) (bnew _ _)) hb⟩
  · exact ((((blk_new w x tx).later (bnew _ _)).later (bnew _ _)).later (bnew _ _)).later hb
  · have h := (((blk_new (w.alloc (.cells x tx)) y ty).later (bnew _ (.cells z tz))).later (bnew _ (.cells u tu))).later hb
    simpa using h
  · have h := ((blk_new ((w.alloc (.cells x tx)).alloc (.cells y ty)) z tz).later (bnew _ (.cells u tu))).later hb
    simpa using h
  · have h := (blk_new (((w.alloc (.cells x tx)).alloc (.cells y ty)).alloc (.cells z tz)) u tu).later hb
    simpa using h
def StepTo (D : DiskD) (op : OpD) (D' : DiskD) (code : Nat) : Prop :=
  ∀ a cap W, FilesIn W a D.fs → Calls Tryz.prog 17 #[.agg #[.slice a D.fs.length cap, .int .i64 D.c, .int .i64 D.k, .int .i64 D.cr, .int .i64 D.fl, .bool D.dn], .agg #[.int .i64 op.kind, .string op.name, .string op.to, .string op.data, .int .i64 op.size]] W fun e w' =>
    ∃ a' cap', e = .returned (.tuple #[.agg #[.slice a' D'.fs.length cap', .int .i64 D'.c, .int .i64 D'.k, .int .i64 D'.cr, .int .i64 D'.fl, .bool D'.dn], .int .i64 code]) ∧ FilesIn w' a' D'.fs ∧ Below W.heap.size W w'
theorem stepTo {D : DiskD} {op : OpD} (h : Fit D.fs) (hn : op.name.size ≤ maxLen) (ht : op.to.size ≤ maxLen) (hd : op.data.size ≤ 1048576) : StepTo D op (stepD D op).1 (stepD D op).2 := fun a cap W hf =>
  specStep_any W a cap D.fs D.c D.k D.cr D.fl D.dn op ⟨hf, h.short, h.len, h.sum, hn, ht, hd⟩
end Go.Proofs.YtboofidegpnkaaaGreatDoor
namespace Go.Proofs.YtboofidegpnkaaaGreatDoor
open Go.RowKit
theorem btw_is {x lo hi : Int} {b : Bool} (h : btwB x lo hi = b) (w : World) : Calls Tryz.prog 16 #[.int .i64 x, .int .i64 lo, .int .i64 hi] w fun e w' => e = .returned (.bool b) ∧ w' = w := h ▸ between_any x lo hi w
set_option maxRecDepth 100000 in
set_option maxHeartbeats 1000000 in
theorem specLogOK_any (L : LogD) (w : World) :
    Calls Tryz.prog 15 #[.agg #[.int .i64 L.first, .int .i64 L.last, .int .i64 L.size]] w fun e w' => e = .returned (.bool (logB L)) ∧ Below w.heap.size w w' := by
  have HB : Hid (Below w.heap.size w (w.alloc (.cells #[.int .i64 L.first, .int .i64 L.last, .int .i64 L.size] 31))) := bnew _ _
  cases h1 : btwB L.last 1 999999 with
  | false =>
    have E : Hid (logB L = false) := by show _ = _; simp [logB, h1]
    have H1 : Hid (btwB L.last 1 999999 = false) := h1
    clear h1
    go_enter Tryz.func15, Tryz.ntmps15
    go_wp2_with fail
    refine (btw_is H1.out _).mono ?_
    rintro e w' ⟨rfl, rfl⟩
    go_wp2
    go_ret
    exact ⟨ret_bool E.out.symm, HB.out⟩
  | true =>
    have H1 : Hid (btwB L.last 1 999999 = true) := h1
    cases h2 : btwB L.first 1 L.last with
    | false =>
      have E : Hid (logB L = false) := by show _ = _; simp [logB, h2]
      have H2 : Hid (btwB L.first 1 L.last = false) := h2
      clear h1 h2
      go_enter Tryz.func15, Tryz.ntmps15
      go_wp2_with fail
      refine (btw_is H1.out _).mono ?_
      rintro e w' ⟨rfl, rfl⟩
      go_wp2_with fail
      refine (btw_is H2.out _).mono ?_
      rintro e w' ⟨rfl, rfl⟩
      go_wp2
      go_ret
      exact ⟨ret_bool E.out.symm, HB.out⟩
    | true =>
      have H2 : Hid (btwB L.first 1 L.last = true) := h2
      have E : Hid (logB L = btwB L.size 0 1000000000) := by show _ = _; simp [logB, h1, h2]
      clear h1 h2
      go_enter Tryz.func15, Tryz.ntmps15
      go_wp2_with fail
      refine (btw_is H1.out _).mono ?_
      rintro e w' ⟨rfl, rfl⟩
      go_wp2_with fail
      refine (btw_is H2.out _).mono ?_
      rintro e w' ⟨rfl, rfl⟩
      go_wp2_with fail
      refine (between_any L.size 0 1000000000 _).mono ?_
      rintro e w' ⟨rfl, rfl⟩
      go_wp2
      go_ret
      exact ⟨ret_bool E.out.symm, HB.out⟩
end Go.Proofs.YtboofidegpnkaaaGreatDoor
namespace Go.Proofs.YtboofidegpnkaaaGreatDoor
open Go.RowKit
set_option maxRecDepth 100000 in
set_option maxHeartbeats 1000000 in
theorem specSeg_any (n : Int) (w : World) :
    Calls Tryz.prog 18 #[.int .i64 n] w fun e w' => e = .returned (.string (segS n)) ∧ Below w.heap.size w w' := by
  by_cases h : 1 ≤ n ∧ n ≤ 999999
  · have hB : btwB n 1 999999 = true := by unfold btwB; simp; omega
    have E : Hid (segS n = segN n.toNat) := if_pos h
    obtain ⟨N, rfl⟩ := Int.eq_ofNat_of_zero_le (show 0 ≤ n by omega)
    have hN : N ≤ 999999 := by omega
    have hcv := conv_one
    clear h
    go_enter Tryz.func18, Tryz.ntmps18
    go_wp2_with (go_at_call 16; refine (between_any _ _ _ _).mono ?_; rintro e w' ⟨rfl, hw⟩; replace hw := hw.symm; subst hw)
    go_loopw [0, 3, 4] (fun m s i wr => ∃ (j M : Nat) (st : ByteArray), j ≤ 6 ∧ i = .int .i64 j ∧ m = .int .i64 M ∧ s = .string st ∧ Hid (M = N / 10 ^ j) ∧ M ≤ 999999 ∧ st.size = j ∧ Hid (st.data.toList = segD N j) ∧ Below w.heap.size w wr) (fun _ _ i _ => 6 - (intOf i).toNat)
    case atStart => exact ⟨0, N, ByteArray.empty, by omega, rfl, rfl, rfl, by show _ = _; simp, hN, rfl, rfl, Below.refl _ _⟩
    case round =>
      obtain ⟨j, M, st, hj, rfl, rfl, rfl, hM, hM2, hsz, hst, hbel⟩ := hrel
      by_cases hlt : j < 6
      · go_wp2
        refine ⟨⟨j + 1, M / 10, _, by omega, by go_num, by go_num, rfl, ?_, by omega, ?_, ?_, bto hbel (bnew _ _)⟩, by simp [intOf]; omega⟩
        · show _ = _
          rw [hM.out, Nat.div_div_eq_div_mul, Nat.pow_succ]
        · rw [str_one_size, hsz]
        · show _ = _
          rw [str_one, hst.out, segD, hM.out]
      · go_wp2
        go_ret
        have e : j = 6 := by omega
        subst e
        refine ⟨congrArg (fun x => Ending.returned (.string x)) ?_, hbel⟩
        rw [E.out, segN]
        refine mk_toList _ _ ?_
        rw [Int.toNat_natCast, ← hst.out]
        simp
  · have hB : btwB n 1 999999 = false := by unfold btwB; simp; omega
    have E : Hid (segS n = ByteArray.empty) := if_neg h
    go_enter Tryz.func18, Tryz.ntmps18
    go_wp2_with (go_at_call 16; refine (between_any _ _ _ _).mono ?_; rintro e w' ⟨rfl, hw⟩; replace hw := hw.symm; subst hw)
    go_ret
    exact ⟨congrArg (fun x => Ending.returned (.string x)) E.out.symm, Below.refl _ _⟩
end Go.Proofs.YtboofidegpnkaaaGreatDoor
namespace Go.Proofs.YtboofidegpnkaaaGreatDoor
open Go.RowKit
theorem str_eq {x y : ByteArray} : (x.toList == y.toList) = true ↔ x = y := ⟨fun h => toList_inj (by simpa using h), fun h => by rw [h]; simp⟩
theorem str_ne {x y : ByteArray} : (x.toList == y.toList) = false ↔ x ≠ y := by rw [← Bool.not_eq_true, str_eq]
theorem str_nil {x : ByteArray} : x.toList.isEmpty = true ↔ x = ByteArray.empty := by
  rw [List.isEmpty_iff]
  constructor
  · intro h
    exact toList_inj (by rw [h, ByteArray.toList_eq]; rfl)
  · intro h
    rw [h, ByteArray.toList_eq]; rfl
theorem str_some {x : ByteArray} : x.toList.isEmpty = false ↔ x ≠ ByteArray.empty := by rw [← Bool.not_eq_true, str_nil]
end Go.Proofs.YtboofidegpnkaaaGreatDoor
namespace Go.Proofs.YtboofidegpnkaaaGreatDoor
open Go.RowKit
set_option maxRecDepth 100000 in
set_option maxHeartbeats 1000000 in
theorem specCrc_any (s : ByteArray) (w : World) (hs : s.size ≤ maxLen) :
    Calls Tryz.prog 32 #[.string s] w fun e w' => e = .returned (.int .i64 (crcV s : Nat)) ∧ w' = w := by
  unfold maxLen at hs
  go_enter Tryz.func32, Tryz.ntmps32
  go_wp2
  go_loop [3, 4, 5, 6, 7, 8] (fun r i _ _ _ _ => ∃ (j R : Nat), j ≤ s.size ∧ i = .int .i64 j ∧ r = .int .i64 R ∧ Hid (R = crcL (s.data.toList.take j))) (fun _ i _ _ _ _ => s.size - (intOf i).toNat)
  case atStart => exact ⟨0, 4294967295, Nat.zero_le _, rfl, rfl, rfl⟩
  case round =>
    obtain ⟨j, R, hj, rfl, rfl, hR⟩ := hrel
    have hRlt : R < 4294967296 := by rw [hR.out]; exact crcL_lt _
    by_cases hlt : j < s.size
    · have hU : s[j].toNat < 256 := s[j].toNat_lt
      go_wp2
      go_loop [3, 5, 6, 7, 8] (fun r k _ _ _ => ∃ (m S : Nat), m ≤ 8 ∧ k = .int .i64 m ∧ r = .int .i64 S ∧ Hid (S = crcBits R s[j].toNat m)) (fun _ k _ _ _ => 8 - (intOf k).toNat)
      case atStart => exact ⟨0, R, by omega, rfl, rfl, rfl⟩
      case round =>
        obtain ⟨m, S, hm, rfl, rfl, hS⟩ := hrel
        have hSlt : S < 4294967296 := by rw [hS.out]; exact crcBits_lt hRlt _
        by_cases hm8 : m < 8
        · go_wp2
          go_loop [6, 7] (fun x q => ∃ (t X : Nat), t ≤ m ∧ q = .int .i64 t ∧ x = .int .i64 X ∧ Hid (X = s[j].toNat / 2 ^ t)) (fun _ q => m - (intOf q).toNat)
          case atStart => exact ⟨0, s[j].toNat, by omega, rfl, rfl, by show _ = _; simp⟩
          case round =>
            obtain ⟨t, X, ht, rfl, rfl, hX⟩ := hrel
            have hXlt : X < 256 := by
              have : X ≤ s[j].toNat := by rw [hX.out]; exact Nat.div_le_self _ _
              omega
            by_cases htm : t < m
            · go_wp2
              exact ⟨⟨t + 1, X / 2, by omega, by go_num, by go_num, by show _ = _; rw [hX.out, Nat.div_div_eq_div_mul, Nat.pow_succ]⟩, by simp [intOf]; omega⟩
            · have e : t = m := by omega
              subst e
              by_cases hodd : (S + X) % 2 = 1
              · go_wp2
                have e2 : bits BinOp.xor IntKind.i64 ((S : Int) / 2) 2197175160 = (((S / 2) ^^^ 2197175160 : Nat) : Int) := xor_i64 (S / 2) 2197175160 (by omega) (by omega)
                rw [e2]
                exact ⟨⟨t + 1, _, by omega, by go_num, rfl, by show _ = _; rw [crcBits, crcBit, ← hS.out, ← hX.out, if_pos hodd]⟩, by simp [intOf]; omega⟩
              · go_wp2
                exact ⟨⟨t + 1, S / 2, by omega, by go_num, by go_num, by show _ = _; rw [crcBits, crcBit, ← hS.out, ← hX.out, if_neg hodd]⟩, by simp [intOf]; omega⟩
        · go_wp2
          have e : m = 8 := by omega
          subst e
          exact ⟨⟨j + 1, S, by omega, by go_num, rfl, by show _ = _; rw [take_snoc s j hlt, crcL_snoc, ← hR.out, crcByte, hS.out]⟩, by simp [intOf]; omega⟩
    · go_wp2
      go_ret
      refine ⟨ret_int ?_, rfl⟩
      rw [crcV, ← List.take_of_length_le (l := s.data.toList) (i := j) (by simp; omega), ← hR.out]
      omega
end Go.Proofs.YtboofidegpnkaaaGreatDoor
namespace Go.Proofs.YtboofidegpnkaaaGreatDoor
open Go.RowKit
theorem ret_str {a b : ByteArray} (h : a = b) : Ending.returned (.string a) = .returned (.string b) := by rw [h]
set_option maxRecDepth 100000 in
set_option maxHeartbeats 1000000 in
theorem specFrame_any (p : ByteArray) (w : World) (hs : p.size ≤ maxLen) :
    Calls Tryz.prog 14 #[.string p] w fun e w' => e = .returned (.string (frameS p)) ∧ Below w.heap.size w w' := by
  by_cases h : 1 ≤ p.size ∧ p.size ≤ 60000
  · have hB : btwB (p.size : Int) 1 60000 = true := by unfold btwB; simp; omega
    have E : Hid (frameS p = numS 4 p.size ++ numS 4 (crcV p : Nat) ++ p) := if_pos h
    have h1 := numS_size 4 (p.size : Int)
    have h2 := numS_size 4 ((crcV p : Nat) : Int)
    have hc := crcV_lt p
    have hp := h.2
    have HS : Hid (p.size ≤ maxLen) := hs
    clear hs h
    go_enter Tryz.func14, Tryz.ntmps14
    go_wp2_with (go_at_call 16; refine (between_any _ _ _ _).mono ?_; rintro e w' ⟨rfl, hw⟩; replace hw := hw.symm; subst hw)
    refine (specNum_any 4 (p.size : Int) _ (by omega) (by omega) (by omega)).mono ?_
    rintro e w1 ⟨rfl, hb1⟩
    go_wp2_with fail
    refine (specCrc_any p _ HS.out).mono ?_
    rintro e w' ⟨rfl, hw⟩
    replace hw := hw.symm
    subst hw
    go_wp2_with fail
    refine (specNum_any 4 ((crcV p : Nat) : Int) _ (by omega) (by omega) (by omega)).mono ?_
    rintro e w2 ⟨rfl, hb2⟩
    generalize numS 4 (p.size : Int) = A at *
    generalize numS 4 ((crcV p : Nat) : Int) = B at *
    have HB : Hid (Below w.heap.size w w2) := bto hb1 hb2
    clear hb1 hb2
    go_wp2
    go_ret
    exact ⟨ret_str E.out.symm, HB.out⟩
  · have hB : btwB (p.size : Int) 1 60000 = false := by unfold btwB; simp; omega
    have E : Hid (frameS p = ByteArray.empty) := if_neg h
    go_enter Tryz.func14, Tryz.ntmps14
    go_wp2_with (go_at_call 16; refine (between_any _ _ _ _).mono ?_; rintro e w' ⟨rfl, hw⟩; replace hw := hw.symm; subst hw)
    go_ret
    exact ⟨ret_str E.out.symm, Below.refl _ _⟩
end Go.Proofs.YtboofidegpnkaaaGreatDoor
