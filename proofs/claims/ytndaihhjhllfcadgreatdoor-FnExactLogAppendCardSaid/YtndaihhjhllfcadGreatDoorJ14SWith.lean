import Derived.Test.YtndaihhjhllfcadGreatDoorJ13SegL
import Derived.Test.YtndaihhjhllfcadGreatDoorProg
import Derived.Test.YtndaihhjhllfcadGreatDoorJ06Pos
import Derived.Deep.AppendLies
namespace Go.Proofs.YtndaihhjhllfcadGreatDoor
open Go.RowKit

/-- A disk's value, and a log's. -/
structure DiskD where
  fs : List FileD
  c : Int
  k : Int
  cr : Int
  fl : Int
  dn : Bool
structure LogD where
  first : Int
  last : Int
  size : Int

/-- The disk after an operation, and the code. -/
def stepD (D : DiskD) (op : OpD) : DiskD × Nat :=
  (⟨(outR D.fs D.c D.k D.cr D.fl D.dn op).2.1, (outR D.fs D.c D.k D.cr D.fl D.dn op).2.2.1, (outR D.fs D.c D.k D.cr D.fl D.dn op).2.2.2.1, (outR D.fs D.c D.k D.cr D.fl D.dn op).2.2.2.2.1, (outR D.fs D.c D.k D.cr D.fl D.dn op).2.2.2.2.2.1, (outR D.fs D.c D.k D.cr D.fl D.dn op).2.2.2.2.2.2⟩, (outR D.fs D.c D.k D.cr D.fl D.dn op).1)

/-- What the contracts of DiskStep want of a disk's files. -/
structure Fit (fs : List FileD) : Prop where
  short : Short fs
  len : fs.length ≤ 1048576
  sum : sumLen fs ≤ 1000000000

theorem fit_nil : Fit [] := ⟨fun i h => absurd h (by simp), by simp, by simp [sumLen]⟩

theorem sumLen_set (fs : List FileD) (i : Nat) (f : FileD) (h : i < fs.length) : sumLen (fs.set i f) + fs[i].data.size = sumLen fs + f.data.size := by
  induction fs generalizing i with
  | nil => exact absurd h (by simp)
  | cons g r ih =>
    cases i with
    | zero => simp [sumLen]; omega
    | succ i =>
      have := ih i (by simpa using h)
      simp only [List.set_cons_succ, List.getElem_cons_succ, sumLen]
      omega
theorem sumLen_mem {fs : List FileD} (i : Nat) (hi : i < fs.length) : fs[i].data.size ≤ sumLen fs := by
  have h1 := sumLen_take_succ fs i hi
  have h2 := sumLen_take_le fs (i + 1)
  omega
theorem short_mem {fs : List FileD} (h : Short fs) {f : FileD} (hf : f ∈ fs) : f.name.size ≤ maxLen ∧ f.data.size ≤ maxLen := by
  obtain ⟨i, hi, rfl⟩ := List.getElem_of_mem hf
  exact h i hi
theorem short_of {fs : List FileD} (h : ∀ f ∈ fs, f.name.size ≤ maxLen ∧ f.data.size ≤ maxLen) : Short fs := fun _ hi => h _ (List.getElem_mem hi)
theorem short_set {fs : List FileD} (h : Short fs) {i : Nat} {f : FileD} (hf : f.name.size ≤ maxLen ∧ f.data.size ≤ maxLen) : Short (fs.set i f) := short_of fun _ hg => by
  rcases List.mem_or_eq_of_mem_set hg with hg | rfl
  · exact short_mem h hg
  · exact hf
theorem sumLen_erase (fs : List FileD) (i : Nat) : sumLen (fs.eraseIdx i) ≤ sumLen fs := by
  induction fs generalizing i with
  | nil => simp
  | cons g r ih =>
    cases i with
    | zero => simp [sumLen]
    | succ i => have := ih i; simp only [List.eraseIdx_cons_succ, sumLen]; omega
theorem sumLen_eraseIdx (fs : List FileD) (i : Nat) (h : i < fs.length) : sumLen (fs.eraseIdx i) + fs[i].data.size = sumLen fs := by
  induction fs generalizing i with
  | nil => exact absurd h (by simp)
  | cons g r ih =>
    cases i with
    | zero => simp [sumLen]; omega
    | succ i =>
      have := ih i (by simpa using h)
      simp only [List.eraseIdx_cons_succ, List.getElem_cons_succ, sumLen]
      omega
theorem sumLen_filter (p : FileD → Bool) (fs : List FileD) : sumLen (fs.filter p) ≤ sumLen fs := by
  induction fs with
  | nil => simp
  | cons g r ih =>
    rw [List.filter_cons]
    split
    · simp only [sumLen]; omega
    · simp only [sumLen]; omega
theorem sumLen_place (fs : List FileD) (f : FileD) : sumLen (placeL fs f) = sumLen fs + f.data.size := by
  induction fs with
  | nil => simp [placeL, sumLen]
  | cons g r ih =>
    unfold placeL
    split
    · simp only [sumLen]; omega
    · simp only [sumLen, ih]; omega
theorem mem_place {fs : List FileD} {f g : FileD} (h : g ∈ placeL fs f) : g = f ∨ g ∈ fs := by
  induction fs with
  | nil => simp [placeL] at h; exact Or.inl h
  | cons x r ih =>
    unfold placeL at h
    split at h
    · simpa using h
    · rcases List.mem_cons.1 h with rfl | h
      · simp
      · rcases ih h with h | h
        · exact Or.inl h
        · exact Or.inr (List.mem_cons_of_mem _ h)
theorem sumLen_ins (fs : List FileD) (i : Nat) (f : FileD) : sumLen (insL fs i f) = sumLen fs + f.data.size := by
  have h := sumLen_append (fs.take i) (fs.drop i)
  rw [List.take_append_drop] at h
  rw [insL, sumLen_append]
  simp only [sumLen]
  omega

theorem fit_do {fs : List FileD} {c : Int} {op : OpD} (h : Fit fs) (h1 : fs.length ≤ 1000) (h3 : c ≤ 1000000000) (hn : op.name.size ≤ maxLen) (ht : op.to.size ≤ maxLen) : Fit (doR fs c op).2 := by
  have hM : (1000000000 : Nat) ≤ maxLen := by unfold maxLen; omega
  unfold doR
  simp only
  split
  · split
    · exact h
    · split
      · exact h
      · refine ⟨short_of fun f hf => ?_, ?_, ?_⟩
        · simp only [insL, List.mem_append, List.mem_cons] at hf
          rcases hf with hf | rfl | hf
          · exact short_mem h.short (List.mem_of_mem_take hf)
          · exact ⟨hn, by simp [maxLen]⟩
          · exact short_mem h.short (List.mem_of_mem_drop hf)
        · show (insL fs _ _).length ≤ _
          rw [insL]
          simp only [List.length_append, List.length_take, List.length_cons, List.length_drop]
          omega
        · show sumLen (insL fs _ _) ≤ _
          rw [sumLen_ins]
          have := h.sum
          simpa using this
  · split
    · exact h
    · rename_i f hf
      obtain ⟨hi, rfl⟩ := List.getElem?_eq_some_iff.1 hf
      have hmem := short_mem h.short (List.getElem_mem hi)
      have hle := sumLen_mem _ hi
      have hs := h.sum
      split
      · exact h
      · split
        · split
          · exact h
          · rename_i hc
            have hset := sumLen_set fs (posOf op.name fs) ⟨fs[posOf op.name fs].name, fs[posOf op.name fs].data ++ op.data, fs[posOf op.name fs].synced⟩ hi
            simp only [ByteArray.size_append] at hset
            refine ⟨short_set h.short ⟨hmem.1, ?_⟩, ?_, ?_⟩
            · show (fs[posOf op.name fs].data ++ op.data).size ≤ maxLen
              rw [ByteArray.size_append]
              omega
            · show (fs.set _ _).length ≤ _
              rw [List.length_set]; omega
            · show sumLen (fs.set _ _) ≤ _
              omega
        · split
          · have hset := sumLen_set fs (posOf op.name fs) ⟨fs[posOf op.name fs].name, fs[posOf op.name fs].data, fs[posOf op.name fs].data.size⟩ hi
            refine ⟨short_set h.short hmem, ?_, ?_⟩
            · show (fs.set _ _).length ≤ _
              rw [List.length_set]; omega
            · show sumLen (fs.set _ _) ≤ _
              simp only at hset
              omega
          · split
            · split
              · have hset := sumLen_set fs (posOf op.name fs) ⟨fs[posOf op.name fs].name, fs[posOf op.name fs].data.extract 0 op.size.toNat, op.size⟩ hi
                have hx : (fs[posOf op.name fs].data.extract 0 op.size.toNat).size ≤ fs[posOf op.name fs].data.size := by rw [ByteArray.size_extract]; omega
                refine ⟨short_set h.short ⟨hmem.1, ?_⟩, ?_, ?_⟩
                · show (fs[posOf op.name fs].data.extract 0 op.size.toNat).size ≤ maxLen
                  omega
                · show (fs.set _ _).length ≤ _
                  rw [List.length_set]; omega
                · show sumLen (fs.set _ _) ≤ _
                  simp only at hset
                  omega
              · exact h
            · split
              · have hlen : (fs.eraseIdx (posOf op.name fs)).length ≤ fs.length := by rw [List.length_eraseIdx]; split <;> omega
                have her := sumLen_eraseIdx fs (posOf op.name fs) hi
                refine ⟨short_of fun g hg => ?_, ?_, ?_⟩
                · rcases mem_place (fs := withoutL (fs.eraseIdx (posOf op.name fs)) op.to) (f := ⟨op.to, fs[posOf op.name fs].data, fs[posOf op.name fs].synced⟩) hg with rfl | hg
                  · exact ⟨ht, hmem.2⟩
                  · exact short_mem h.short (List.mem_of_mem_eraseIdx (List.mem_filter.1 hg).1)
                · show (withL _ _).length ≤ _
                  have hpl : ∀ (l : List FileD) (f : FileD), (placeL l f).length = l.length + 1 := fun l f => by
                    induction l with
                    | nil => rfl
                    | cons g r ih => unfold placeL; split <;> simp [ih]
                  have : (withoutL (fs.eraseIdx (posOf op.name fs)) op.to).length ≤ (fs.eraseIdx (posOf op.name fs)).length := List.length_filter_le _ _
                  rw [withL, hpl]
                  simp only
                  omega
                · show sumLen (withL _ _) ≤ _
                  have := sumLen_filter (fun f => !(f.name.toList == op.to.toList)) (fs.eraseIdx (posOf op.name fs))
                  rw [withL, sumLen_place]
                  simp only [withoutL]
                  omega
              · refine ⟨short_of fun g hg => short_mem h.short (List.mem_of_mem_eraseIdx hg), ?_, ?_⟩
                · show (fs.eraseIdx _).length ≤ _
                  rw [List.length_eraseIdx]; split <;> omega
                · show sumLen (fs.eraseIdx _) ≤ _
                  have := sumLen_erase fs (posOf op.name fs)
                  omega

theorem fit_step {D : DiskD} {op : OpD} (h : Fit D.fs) (hn : op.name.size ≤ maxLen) (ht : op.to.size ≤ maxLen) : Fit (stepD D op).1.fs := by
  show Fit (outR D.fs D.c D.k D.cr D.fl D.dn op).2.1
  unfold outR
  split
  · rename_i hq
    simp only [Bool.and_eq_true] at hq
    obtain ⟨_, h1, _, h3, _⟩ := files_of_disk hq.1
    unfold stepR
    split
    · exact fit_do h h1 h3 hn ht
    · exact h
  · exact fit_nil

def logB (L : LogD) : Bool := btwB L.last 1 999999 && btwB L.first 1 L.last && btwB L.size 0 1000000000
def opCreate (n : Int) : OpD := ⟨1, segS n, ⟨#[]⟩, ⟨#[]⟩, 0⟩
def opAppend (n : Int) (f : ByteArray) : OpD := ⟨2, segS n, ⟨#[]⟩, f, 0⟩
def opSync (n : Int) : OpD := ⟨3, segS n, ⟨#[]⟩, ⟨#[]⟩, 0⟩
def opCut (n : Int) (z : Int) : OpD := ⟨4, segS n, ⟨#[]⟩, ⟨#[]⟩, z⟩

/-- LogAppend from its second step on. -/
def appendT (D : DiskD) (L : LogD) (f : ByteArray) : DiskD × LogD × Nat :=
  if (stepD D (opAppend L.last f)).2 ≠ 0 then ((stepD D (opAppend L.last f)).1, L, (stepD D (opAppend L.last f)).2)
  else if (stepD (stepD D (opAppend L.last f)).1 (opSync L.last)).2 ≠ 0 then ((stepD (stepD D (opAppend L.last f)).1 (opSync L.last)).1, L, (stepD (stepD D (opAppend L.last f)).1 (opSync L.last)).2)
  else ((stepD (stepD D (opAppend L.last f)).1 (opSync L.last)).1, ⟨L.first, L.last, L.size + f.size⟩, 0)
def appendD (D : DiskD) (L : LogD) (p : ByteArray) (most : Int) : DiskD × LogD × Nat :=
  if (logB L && btwB most 1 1000000000) = false then (D, L, 21)
  else if frameS p = ByteArray.empty then (D, L, 22)
  else if L.size ≠ 0 ∧ most < L.size + (frameS p).size then
    if L.last = 999999 then (D, L, 23)
    else if (stepD D (opCreate (L.last + 1))).2 ≠ 0 then ((stepD D (opCreate (L.last + 1))).1, L, (stepD D (opCreate (L.last + 1))).2)
    else appendT (stepD D (opCreate (L.last + 1))).1 ⟨L.first, L.last + 1, 0⟩ (frameS p)
  else appendT D L (frameS p)

theorem append_new {D D1 : DiskD} {L : LogD} {p F : ByteArray} {most : Int} {x : Nat} (hF : frameS p = F) (h1 : ¬ (logB L && btwB most 1 1000000000) = false) (h2 : ¬ frameS p = ByteArray.empty) (h3 : L.size ≠ 0 ∧ most < L.size + F.size) (h4 : ¬ L.last = 999999) (hs : stepD D (opCreate (L.last + 1)) = (D1, x)) :
    appendD D L p most = if x ≠ 0 then (D1, L, x) else appendT D1 ⟨L.first, L.last + 1, 0⟩ F := by
  subst hF
  unfold appendD
  rw [if_neg h1, if_neg h2, if_pos h3, if_neg h4, hs]
theorem appendT_fail {D D1 : DiskD} {L : LogD} {f : ByteArray} {x : Nat} (hs : stepD D (opAppend L.last f) = (D1, x)) (hx : ¬ x = 0) : appendT D L f = (D1, L, x) := by
  unfold appendT
  rw [hs, if_pos hx]
theorem appendT_sync {D D1 D2 : DiskD} {L : LogD} {f : ByteArray} {x y : Nat} (hs : stepD D (opAppend L.last f) = (D1, x)) (hx : x = 0) (hs2 : stepD D1 (opSync L.last) = (D2, y)) : appendT D L f = if y ≠ 0 then (D2, L, y) else (D2, ⟨L.first, L.last, L.size + f.size⟩, 0) := by
  unfold appendT
  rw [hs, if_neg (by simp [hx])]
  simp only
  rw [hs2]
end Go.Proofs.YtndaihhjhllfcadGreatDoor

namespace Go.Proofs.YtndaihhjhllfcadGreatDoor
open Go.RowKit

theorem row_ne {w : World} {B : Nat} {e : TypeId} {size : Nat} {v : Value} {n : Nat} {xs : List Value} (h : w.ownsRow B e size v n xs) {g : Nat} (hg : g < B) : some g ≠ v.ownBlock := fun e1 => by
  rcases h.2 with ⟨rfl, _⟩ | ⟨g', cap, cur, rfl, hB, _⟩
  · simp [Value.ownBlock] at e1
  · simp [Value.ownBlock] at e1; omega

theorem grown_below {W w w' : World} {B : Nat} {e : TypeId} {size : Nat} {v : Value} {n : Nat} {xs : List Value} (h : w.ownsRow B e size v n xs) (hb : Below B W w) (hBw : B ≤ w.heap.size) (hg : w.grownBy w' v.ownBlock) : Below B W w' :=
  hb.trans ((Keeps.grown (S := fun k => v.ownBlock = some k) hg (fun _ h => h)).below (fun g hg => by
    rcases h.2 with ⟨rfl, _⟩ | ⟨g', cap, cur, rfl, hB, _⟩
    · simp [Value.ownBlock] at hg
    · simp [Value.ownBlock] at hg; omega) hBw)

theorem news_two (W : World) (x : Obj) (cs : Array Value) (t : TypeId) : ∀ j u, cs.toList[j]? = some u → ((W.alloc x).alloc (.cells cs t)).cell? ((⟨W.heap.size + 1, 0, none⟩ : Addr).add j) = some u :=
  World.news_of_block (fr := (0, 0)) (by have h := heap_alloc_new (W.alloc x) (.cells cs t); simpa using h)

theorem without_snoc (l : List FileD) (f : FileD) (t : ByteArray) : withoutL (l ++ [f]) t = withoutL l t ++ (if (f.name.toList == t.toList) = true then [] else [f]) := by
  unfold withoutL
  rw [List.filter_append]
  by_cases h : (f.name.toList == t.toList) = true
  · rw [if_pos h]; simp only [List.filter_cons, h]; rfl
  · rw [if_neg h]
    have h' : (f.name.toList == t.toList) = false := by simpa using h
    simp only [List.filter_cons, h']; rfl

theorem without_length (l : List FileD) (t : ByteArray) : (withoutL l t).length ≤ l.length := List.length_filter_le _ _

set_option maxRecDepth 100000 in
set_option maxHeartbeats 2000000 in
theorem l1Without_any (a : Option Addr) (cap : Nat) (fs : List FileD) (t : ByteArray) (w : World) (hf : FilesIn w a fs) (hlen : fs.length ≤ 1048576) :
    Calls Tryz.prog 106 #[.slice a fs.length cap, .string t] w fun e w' => ∃ v, e = .returned v ∧ w'.ownsRow w.heap.size 115 3 v (withoutL fs t).length (flat (withoutL fs t)) ∧ Below w.heap.size w w' := by
  have HF : Hid (FilesIn w a fs) := hf
  clear hf
  obtain ⟨ti, hti, hz0, hz1, hz2⟩ := info_filex
  have HI : Hid (Tryz.prog.info? 115 = some ti) := hti
  clear hti
  go_enter Tryz.func106, Tryz.ntmps106
  go_wp2
  go_loopw [5, 7, 11] (fun o _ i wr => ∃ (j : Nat) (av : Option Addr) (n cv : Nat), j ≤ fs.length ∧ i = .int .i64 j ∧ o = .slice av n cv ∧ n = (withoutL (fs.take j) t).length ∧ wr.ownsRow w.heap.size 115 3 (.slice av n cv) n (flat (withoutL (fs.take j) t)) ∧ Below w.heap.size w wr) (fun _ _ i _ => fs.length - (intOf i).toNat)
  case atStart => exact ⟨0, _, 0, 0, Nat.zero_le _, rfl, rfl, rfl, ⟨rfl, Or.inr ⟨w.heap.size, 0, #[], rfl, Nat.le_refl _, heap_alloc_new _ _, Nat.le_refl _, Nat.zero_le _, rfl, rfl⟩⟩, bnew _ _⟩
  case round =>
    obtain ⟨j, av, n, cv, hj, rfl, rfl, hn, hrow, hbel⟩ := hrel
    have H1 : Hid (wr.ownsRow w.heap.size 115 3 (.slice av n cv) n (flat (withoutL (fs.take j) t))) := hrow
    have HN : Hid (n = (withoutL (fs.take j) t).length) := hn
    have hn2 : n ≤ 1048576 := by have := without_length (fs.take j) t; rw [List.length_take] at this; omega
    clear hrow hn
    by_cases hlt : j < fs.length
    · obtain ⟨b, o, rfl, hb, c0, c1, c2⟩ := (HF.out.later hbel).at hlt
      have hnb : ¬ b = wr.heap.size := by omega
      have HT : Hid (withoutL (fs.take (j + 1)) t = withoutL (fs.take j) t ++ (if (fs[j].name.toList == t.toList) = true then [] else [fs[j]])) := by
        show _ = _
        rw [List.take_succ_eq_append_getElem hlt, without_snoc]
      by_cases he : (fs[j].name.toList == t.toList) = true
      · have HT2 : Hid (withoutL (fs.take (j + 1)) t = withoutL (fs.take j) t) := by show _ = _; rw [HT.out, if_pos he]; simp
        go_wp2
        exact ⟨⟨j + 1, av, n, cv, by omega, by go_num, rfl, by rw [HT2.out]; exact HN.out, by rw [HT2.out]; exact row_later H1.out (bnew _ _), bto hbel (bnew _ _)⟩, by simp [intOf]; omega⟩
      · have he' : (fs[j].name.toList == t.toList) = false := by simpa using he
        have HT2 : Hid (withoutL (fs.take (j + 1)) t = withoutL (fs.take j) t ++ [fs[j]]) := by show _ = _; rw [HT.out, if_neg he]
        have HW : Hid (Below wr.heap.size wr ((wr.alloc (.cells #[.string fs[j].name, .string fs[j].data, .int .i64 fs[j].synced] 115)).alloc (.cells #[.string fs[j].name, .string fs[j].data, .int .i64 fs[j].synced] 115))) := bto (bnew _ _) (bnew _ _)
        clear he HT
        go_wp2_with (at_builtin; refine wpList_append_lies _ rfl _ _ _ rfl w.heap.size 115 ti _ 3 40 Tryz.underlying28 HI.out hz0 hz1 hz2 rfl (by omega) (.slice av n cv) n (flat (withoutL (fs.take j) t)) rfl (by exact row_later H1.out HW.out) ⟨wr.heap.size + 1, 0, none⟩ 1 1 [.string fs[j].name, .string fs[j].data, .int .i64 fs[j].synced] rfl rfl (by exact news_two _ _ #[.string fs[j].name, .string fs[j].data, .int .i64 fs[j].synced] _) (by simp [Value.oneCell']) (by omega) (by simp [maxLen]; omega) (by omega) (by have := hbel.size; simp; omega) (wr.heap.size + 1 + 1) (by simp) ?_; intro g5 cap5 w5 hown5 hgrow5 hat5 hlt5)
        refine ⟨⟨j + 1, _, n + 1, _, by omega, by go_num, rfl, by rw [HT2.out, List.length_append, ← HN.out]; rfl, ?_, ?_⟩, by simp [intOf]; omega⟩
        · rw [HT2.out, flat_append, flat_one]
          exact hown5
        · exact grown_below (row_later H1.out HW.out) (bto hbel HW.out) (by have := hbel.size; simp; omega) hgrow5
    · go_wp2
      go_ret
      have ej : j = fs.length := by omega
      have h := H1.out
      have hn := HN.out
      rw [ej, List.take_length] at h hn
      subst hn
      exact ⟨_, rfl, h, hbel⟩

theorem place_snoc_placed : ∀ {l : List FileD} {f : FileD} (r : List FileD), (l.any fun g => Op.bytesLess f.name.toList g.name.toList) = true → placeL (l ++ r) f = placeL l f ++ r
  | [], _, _, h => by simp at h
  | g :: l, f, r, h => by
    show placeL (g :: (l ++ r)) f = _
    unfold placeL
    by_cases hl : Op.bytesLess f.name.toList g.name.toList = true
    · rw [if_pos hl, if_pos hl]; rfl
    · rw [if_neg hl, if_neg hl, place_snoc_placed r (by simpa [hl] using h)]; rfl

theorem place_snoc_none : ∀ {l : List FileD} {f : FileD} (r : List FileD), (l.any fun g => Op.bytesLess f.name.toList g.name.toList) = false → placeL (l ++ r) f = l ++ placeL r f
  | [], _, _, _ => rfl
  | g :: l, f, r, h => by
    simp only [List.any_cons, Bool.or_eq_false_iff] at h
    show placeL (g :: (l ++ r)) f = _
    rw [placeL, if_neg (by rw [h.1]; simp), place_snoc_none r h.2]; rfl

/-- How far l1With has come: whether f is placed, and the files so far. -/
def placedB (es : List FileD) (f : FileD) (j : Nat) : Bool := (es.take j).any fun g => Op.bytesLess f.name.toList g.name.toList
def partL (es : List FileD) (f : FileD) (j : Nat) : List FileD := if placedB es f j = true then placeL (es.take j) f else es.take j

theorem placedB_succ {es : List FileD} {f : FileD} {j : Nat} (h : j < es.length) : placedB es f (j + 1) = (placedB es f j || Op.bytesLess f.name.toList es[j].name.toList) := by
  unfold placedB
  rw [List.take_succ_eq_append_getElem h, List.any_append]
  simp only [List.any_cons, List.any_nil, Bool.or_false]

theorem part_placed {es : List FileD} {f : FileD} {j : Nat} (h : j < es.length) (hp : placedB es f j = true) : partL es f (j + 1) = partL es f j ++ [es[j]] := by
  unfold partL
  rw [if_pos hp, if_pos (by rw [placedB_succ h, hp]; rfl), List.take_succ_eq_append_getElem h]
  exact place_snoc_placed _ hp

theorem part_now {es : List FileD} {f : FileD} {j : Nat} (h : j < es.length) (hp : placedB es f j = false) (hl : Op.bytesLess f.name.toList es[j].name.toList = true) : partL es f (j + 1) = partL es f j ++ [f] ++ [es[j]] := by
  have e1 : placedB es f (j + 1) = true := by rw [placedB_succ h, hl]; simp
  have e2 : partL es f (j + 1) = placeL (es.take (j + 1)) f := if_pos e1
  have e3 : partL es f j = es.take j := if_neg (by rw [hp]; simp)
  rw [e2, e3, List.take_succ_eq_append_getElem h, place_snoc_none _ hp]
  simp [placeL, hl]

theorem part_not {es : List FileD} {f : FileD} {j : Nat} (h : j < es.length) (hp : placedB es f j = false) (hl : Op.bytesLess f.name.toList es[j].name.toList = false) : partL es f (j + 1) = partL es f j ++ [es[j]] := by
  have e1 : placedB es f (j + 1) = false := by rw [placedB_succ h, hp, hl]; rfl
  have e2 : partL es f (j + 1) = es.take (j + 1) := if_neg (by rw [e1]; simp)
  have e3 : partL es f j = es.take j := if_neg (by rw [hp]; simp)
  rw [e2, e3, List.take_succ_eq_append_getElem h]

theorem part_end {es : List FileD} {f : FileD} (hp : placedB es f es.length = false) : placeL es f = partL es f es.length ++ [f] := by
  unfold partL
  rw [if_neg (by rw [hp]; simp)]
  unfold placedB at hp
  rw [List.take_length] at hp ⊢
  have := place_snoc_none (f := f) [] hp
  rw [List.append_nil] at this
  rw [this]; rfl

theorem part_all {es : List FileD} {f : FileD} (hp : placedB es f es.length = true) : placeL es f = partL es f es.length := by
  unfold partL
  rw [if_pos hp, List.take_length]

theorem part_length (es : List FileD) (f : FileD) (j : Nat) : (partL es f j).length ≤ j + 1 := by
  have hpl : ∀ (l : List FileD), (placeL l f).length = l.length + 1 := fun l => by
    induction l with
    | nil => rfl
    | cons g r ih => unfold placeL; split <;> simp [ih]
  unfold partL
  split
  · rw [hpl, List.length_take]; omega
  · rw [List.length_take]; omega
end Go.Proofs.YtndaihhjhllfcadGreatDoor

