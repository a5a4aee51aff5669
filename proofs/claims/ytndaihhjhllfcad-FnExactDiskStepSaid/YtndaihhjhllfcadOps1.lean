import Derived.Test.YtndaihhjhllfcadProg
import Derived.Test.YtndaihhjhllfcadCode
import Derived.Test.YtndaihhjhllfcadDel
import Derived.Test.YtndaihhjhllfcadIns2
import Derived.Test.YtndaihhjhllfcadDv
namespace Go.Proofs.Ytndaihhjhllfcad
open Go.RowKit

theorem row_of_files {w : World} {B g cap : Nat} {cur : Array Value} {e : TypeId} {fs : List FileD} (hB : B ≤ g) (h : Blk w g cur e) (hn : fs.length ≤ cap) (hm : cap ≤ maxLen) (hs : cur.size = cap * 3) (hr : ∀ j (hj : j < fs.length), RowFile cur 0 j fs[j]) :
    w.ownsRow B e 3 (.slice (some ⟨g, 0, none⟩) fs.length cap) fs.length (flat fs) :=
  row_of_cells hB h hn hm hs (flat_length fs) fun j u hu => by
    have := cells_of_files (filesAt_of_rows h hr) j u hu
    rwa [Addr.add_lit, Nat.zero_add] at this

theorem files_of_row {w : World} {B g cap : Nat} {e : TypeId} {fs : List FileD} (h : w.ownsRow B e 3 (.slice (some ⟨g, 0, none⟩) fs.length cap) fs.length (flat fs)) :
    ∃ cur, B ≤ g ∧ Blk w g cur e ∧ fs.length ≤ cap ∧ cap ≤ maxLen ∧ cur.size = cap * 3 ∧ ∀ j (hj : j < fs.length), RowFile cur 0 j fs[j] := by
  obtain ⟨cur, hB, _, hb, hn, hm, hs, hc⟩ := cells_of_row h
  refine ⟨cur, hB, hb, hn, hm, hs, fun j hj => ?_⟩
  obtain ⟨a1, a2, a3⟩ := flat_get fs j hj
  have b1 := hc _ _ a1
  have b2 := hc _ _ a2
  have b3 := hc _ _ a3
  rw [hb.cell] at b1 b2 b3
  exact ⟨by rw [Nat.zero_add]; exact b1, by rw [Nat.zero_add]; exact b2, by rw [Nat.zero_add]; exact b3⟩

theorem DriveAt.slice {w : World} {B D : Nat} {fs : List FileD} {c k cr fl : Int} {dn : Bool} {v : Value} (h : DriveAt w B D fs c k cr fl dn v) (hn : 0 < fs.length) : ∃ g cap, v = .slice (some ⟨g, 0, none⟩) fs.length cap ∧ g ≠ D ∧ B ≤ g := by
  rcases h.row.2 with ⟨_, h0⟩ | ⟨g, cap, cur, rfl, hB, _⟩
  · omega
  · exact ⟨g, cap, rfl, h.apart g rfl, hB⟩

theorem DriveAt.size {w : World} {B D : Nat} {fs : List FileD} {c k cr fl : Int} {dn : Bool} {v : Value} (h : DriveAt w B D fs c k cr fl dn v) : B ≤ w.heap.size := by
  have := lt_of_block h.blk; have := h.from'; omega

theorem DriveAt.cell4 {w : World} {B D : Nat} {fs : List FileD} {c k cr fl : Int} {dn : Bool} {v : Value} (h : DriveAt w B D fs c k cr fl dn v) : w.cell? ⟨D, 4, none⟩ = some v := by
  have := h.blk.cell 4; simpa using this
theorem DriveAt.cell5 {w : World} {B D : Nat} {fs : List FileD} {c k cr fl : Int} {dn : Bool} {v : Value} (h : DriveAt w B D fs c k cr fl dn v) : w.cell? ⟨D, 5, none⟩ = some (.int .i64 c) := by
  have := h.blk.cell 5; simpa using this

theorem DriveAt.files {w : World} {B D : Nat} {fs : List FileD} {c k cr fl : Int} {dn : Bool} {v : Value} (h : DriveAt w B D fs c k cr fl dn v) : ∃ a cap, v = .slice a fs.length cap ∧ FilesIn w a fs := by
  obtain ⟨a, cap, rfl, ho⟩ := owned_of_row h.row
  exact ⟨a, cap, rfl, ho.files⟩

/-- One file of a drive has been put in the place of another. -/
theorem DriveAt.put {w w' : World} {B D g cap i : Nat} {fs : List FileD} {f : FileD} {c k cr fl : Int} {dn : Bool} {cur' : Array Value} (h : DriveAt w B D fs c k cr fl dn (.slice (some ⟨g, 0, none⟩) fs.length cap)) (hbut : But g w w')
    (hb : Blk w' g cur' 61) (hs : cur'.size = cap * 3) (hr : ∀ m (hm : m < fs.length), RowFile cur' 0 m (if m = i then f else fs[m])) : DriveAt w' B D (fs.set i f) c k cr fl dn (.slice (some ⟨g, 0, none⟩) fs.length cap) := by
  obtain ⟨cur, hB, _, hn, hm, _, _⟩ := files_of_row h.row
  refine ⟨h.from', Blk.keeps h.blk (Keeps.but hbut) (fun e => h.apart g rfl e.symm), ?_, h.apart⟩
  have e : (fs.set i f).length = fs.length := List.length_set ..
  have := row_of_files (fs := fs.set i f) hB hb (by rw [e]; exact hn) hm hs (fun j hj => by
    have h1 := hr j (by omega)
    rw [List.getElem_set]
    by_cases e2 : j = i
    · subst e2; simpa using h1
    · rw [if_neg e2] at h1; rw [if_neg (Ne.symm e2)]; exact h1)
  rw [e] at this
  rw [e]
  exact this

set_option maxHeartbeats 400000 in
theorem write_any (b o : Nat) (cur : Array Value) (t : TypeId) (d x : ByteArray) (w : World) (hb : Blk w b cur t) (h1 : cur[o + 1]? = some (.string d)) (hl : d.size + x.size ≤ 4000000000) :
    Calls Try.prog 56 #[.pointer (some ⟨b, o, none⟩), .string x] w fun e w' => e = .returned (.tuple #[]) ∧ w' = w.setCell ⟨b, o + 1, none⟩ (.string (d ++ x)) := by
  have c1 := hb.cell (o + 1)
  rw [h1] at c1
  have f1 := hb.free (o + 1)
  clear hb h1
  go_enter Try.func56, Try.ntmps56
  go_wp2
  go_end0
  exact ⟨rfl, rfl⟩

/-- The rows of a block in which the last two cells of file i were turned. -/
theorem rows_put {cur : Array Value} {fs : List FileD} {i : Nat} (hi : i < fs.length) (h : ∀ m (hm : m < fs.length), RowFile cur 0 m fs[m]) (x : ByteArray) (s : Int) :
    ∀ m (hm : m < fs.length), RowFile ((cur.setIfInBounds (i * 3 + 1) (.string x)).setIfInBounds (i * 3 + 2) (.int .i64 s)) 0 m (if m = i then ⟨fs[i].name, x, s⟩ else fs[m]) := by
  intro m hm
  by_cases e : m = i
  · subst e
    rw [if_pos rfl]
    obtain ⟨a1, a2, a3⟩ := h m hm
    have l2 := (Array.getElem?_eq_some_iff.1 a2).1
    have l3 := (Array.getElem?_eq_some_iff.1 a3).1
    rw [Nat.zero_add] at l2 l3
    refine ⟨?_, ?_, ?_⟩
    · rw [Array.getElem?_setIfInBounds_ne (by omega), Array.getElem?_setIfInBounds_ne (by omega)]; exact a1
    · rw [Nat.zero_add, Array.getElem?_setIfInBounds_ne (by omega)]
      simp [l2]
    · rw [Nat.zero_add]
      simp [l3]
  · rw [if_neg e]
    exact ((h m hm).set (by omega) _).set (by omega) _

theorem rows_put1 {cur : Array Value} {fs : List FileD} {i : Nat} (hi : i < fs.length) (h : ∀ m (hm : m < fs.length), RowFile cur 0 m fs[m]) (x : ByteArray) :
    ∀ m (hm : m < fs.length), RowFile (cur.setIfInBounds (i * 3 + 1) (.string x)) 0 m (if m = i then ⟨fs[i].name, x, fs[i].synced⟩ else fs[m]) := by
  intro m hm
  by_cases e : m = i
  · subst e
    rw [if_pos rfl]
    obtain ⟨a1, a2, a3⟩ := h m hm
    have l2 := (Array.getElem?_eq_some_iff.1 a2).1
    rw [Nat.zero_add] at l2
    refine ⟨?_, ?_, ?_⟩
    · rw [Array.getElem?_setIfInBounds_ne (by omega)]; exact a1
    · rw [Nat.zero_add]
      simp [l2]
    · rw [Array.getElem?_setIfInBounds_ne (by omega)]; exact a3
  · rw [if_neg e]
    exact (h m hm).set (by omega) _

theorem rows_put2 {cur : Array Value} {fs : List FileD} {i : Nat} (hi : i < fs.length) (h : ∀ m (hm : m < fs.length), RowFile cur 0 m fs[m]) (s : Int) :
    ∀ m (hm : m < fs.length), RowFile (cur.setIfInBounds (i * 3 + 2) (.int .i64 s)) 0 m (if m = i then ⟨fs[i].name, fs[i].data, s⟩ else fs[m]) := by
  intro m hm
  by_cases e : m = i
  · subst e
    rw [if_pos rfl]
    obtain ⟨a1, a2, a3⟩ := h m hm
    have l3 := (Array.getElem?_eq_some_iff.1 a3).1
    rw [Nat.zero_add] at l3
    refine ⟨?_, ?_, ?_⟩
    · rw [Array.getElem?_setIfInBounds_ne (by omega)]; exact a1
    · rw [Array.getElem?_setIfInBounds_ne (by omega)]; exact a2
    · rw [Nat.zero_add]
      simp [l3]
  · rw [if_neg e]
    exact (h m hm).set (by omega) _

set_option maxRecDepth 100000 in
set_option maxHeartbeats 1000000 in
theorem truncate_bad (b o : Nat) (cur : Array Value) (t : TypeId) (d : ByteArray) (s : Int) (w : World) (hb : Blk w b cur t) (h1 : cur[o + 1]? = some (.string d)) (hs : btwB s 0 d.size = false) :
    Calls Try.prog 44 #[.pointer (some ⟨b, o, none⟩), .int .i64 s] w fun e w' => e = .returned (errV 6) ∧ Below w.heap.size w w' := by
  have c1 := hb.cell (o + 1)
  rw [h1] at c1
  have HS : Hid (btwB s 0 d.size = false) := hs
  clear hb h1 hs
  go_enter Try.func44, Try.ntmps44
  go_wp2_with fail
  refine (within_is HS.out _).mono ?_
  rintro e w' ⟨rfl, rfl⟩
  go_wp2
  go_ret
  exact ⟨rfl, Below.refl _ _⟩

set_option maxRecDepth 100000 in
set_option maxHeartbeats 1000000 in
theorem truncate_ok (b o : Nat) (cur : Array Value) (t : TypeId) (d : ByteArray) (s : Int) (w : World) (hb : Blk w b cur t) (h1 : cur[o + 1]? = some (.string d)) (h2 : o + 2 < cur.size) (hs : btwB s 0 d.size = true) (hd : d.size ≤ 1000000000) :
    Calls Try.prog 44 #[.pointer (some ⟨b, o, none⟩), .int .i64 s] w fun e w' => e = .returned (errV 0) ∧ But b w w' ∧
      Blk w' b ((cur.setIfInBounds (o + 1) (.string (d.extract 0 s.toNat))).setIfInBounds (o + 2) (.int .i64 s)) t := by
  have c1 := hb.cell (o + 1)
  rw [h1] at c1
  have f1 := hb.free (o + 1)
  have HS : Hid (btwB s 0 d.size = true) := hs
  have hs0 : 0 ≤ s ∧ s ≤ d.size := by simpa [btwB] using hs
  obtain ⟨hs0, hs1⟩ := hs0
  have HB : Hid (Blk w b cur t) := hb
  have H1 : Hid (o + 1 < cur.size) := (Array.getElem?_eq_some_iff.1 h1).1
  have H2 : Hid (o + 2 < cur.size) := h2
  clear hb h1 hs h2
  go_enter Try.func44, Try.ntmps44
  go_wp2_with fail
  refine (within_is HS.out _).mono ?_
  rintro e w' ⟨rfl, rfl⟩
  go_wp2_with fail
  refine (sync_any b o _ t (d.extract 0 s.toNat) _ (HB.out.set (o + 1) (.string (d.extract 0 s.toNat))) (by have := H1.out; simp [Array.getElem?_setIfInBounds]; omega) (by have := H2.out; simp; omega)).mono ?_
  rintro e w1 ⟨rfl, hw1⟩
  have HF : Hid (But b w' w1) := by show But b w' w1; rw [hw1]; exact ((But.refl _ _).setCell _ _).setCell _ _
  have E3 : Hid (((d.extract 0 s.toNat).size : Int) = s) := by show _ = _; rw [ByteArray.size_extract]; omega
  have HG : Hid (Blk w1 b ((cur.setIfInBounds (o + 1) (.string (d.extract 0 s.toNat))).setIfInBounds (o + 2) (.int .i64 s)) t) := by
    have h := (HB.out.set (o + 1) (.string (d.extract 0 s.toNat))).set (o + 2) (.int .i64 ((d.extract 0 s.toNat).size : Nat))
    show Blk _ _ _ _
    rw [hw1]
    rw [E3.out] at h ⊢
    exact h
  clear hw1
  go_wp2
  go_ret
  exact ⟨rfl, HF.out, HG.out⟩
end Go.Proofs.Ytndaihhjhllfcad
