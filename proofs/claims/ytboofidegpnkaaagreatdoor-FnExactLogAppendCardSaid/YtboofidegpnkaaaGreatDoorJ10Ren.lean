import Derived.Test.YtboofidegpnkaaaGreatDoorProg
import Derived.Test.YtboofidegpnkaaaGreatDoorJ07Code
import Derived.Test.YtboofidegpnkaaaGreatDoorJ09Dv
import Derived.Test.YtboofidegpnkaaaGreatDoorJ05Cells
import Derived.Test.YtboofidegpnkaaaGreatDoorJ04Clone
import Derived.Deep.RegionWith
namespace Go.Proofs.YtboofidegpnkaaaGreatDoor
open Go.RowKit
theorem row_of_files {w : World} {B g cap : Nat} {cur : Array Value} {e : TypeId} {fs : List FileD} (hB : B ≤ g) (h : Blk w g cur e) (hn : fs.length ≤ cap) (hm : cap ≤ maxLen) (hs : cur.size = cap * 3) (hr : ∀ j (hj : j < fs.length), RowFile cur 0 j fs[j]) :
    w.ownsRow B e 3 (.slice (some ⟨g, 0, none⟩) fs.length cap) fs.length (flat fs) :=
  row_of_cells hB h hn hm hs (flat_length fs) fun j u hu => by
    have := cells_of_files (filesAt_of_rows h hr) j u hu
    rwa [Addr.add_lit, Nat.zero_add] at this
theorem files_of_row {w : World} {B g cap : Nat} {e : TypeId} {fs : List FileD} (h : w.ownsRow B e 3 (.slice (some ⟨g, 0, none⟩) fs.length cap) fs.length (flat fs)) :
    ∃ cur, B ≤ g ∧ Blk w g cur e ∧ fs.length ≤ cap ∧ cap ≤ maxLen ∧ cur.size = cap * 3 ∧ ∀ j (hj : j < fs.length), RowFile cur 0 j fs[j] := by
  obtain ⟨cur, hB, _, hb, hn, hm, hs, hc⟩ := cells_of_row h
  refine ⟨cur, hB, hb, hn, hm, hs, fun j hj => ?_⟩
  obtain ⟨a1, a2, a3⟩ := flat_get fs j hj
  have b1 := hc _ _ a1
  have b2 := hc _ _ a2
  have b3 := hc _ _ a3
  rw [hb.cell] at b1 b2 b3
  exact ⟨by rw [Nat.zero_add]; exact b1, by rw [Nat.zero_add]; exact b2, by rw [Nat.zero_add]; exact b3⟩
theorem DriveAt.slice {w : World} {B D : Nat} {fs : List FileD} {c k cr fl : Int} {dn : Bool} {v : Value} (h : DriveAt w B D fs c k cr fl dn v) (hn : 0 < fs.length) : ∃ g cap, v = .slice (some ⟨g, 0, none⟩) fs.length cap ∧ g ≠ D ∧ B ≤ g := by
  rcases h.row.2 with ⟨_, h0⟩ | ⟨g, cap, cur, rfl, hB, _⟩
  · omega
  · exact ⟨g, cap, rfl, h.apart g rfl, hB⟩
theorem DriveAt.size {w : World} {B D : Nat} {fs : List FileD} {c k cr fl : Int} {dn : Bool} {v : Value} (h : DriveAt w B D fs c k cr fl dn v) : B ≤ w.heap.size := by
  have := lt_of_block h.blk; have := h.from'; omega
theorem DriveAt.cell4 {w : World} {B D : Nat} {fs : List FileD} {c k cr fl : Int} {dn : Bool} {v : Value} (h : DriveAt w B D fs c k cr fl dn v) : w.cell? ⟨D, 4, none⟩ = some v := by
  have := h.blk.cell 4; simpa using this
theorem DriveAt.cell5 {w : World} {B D : Nat} {fs : List FileD} {c k cr fl : Int} {dn : Bool} {v : Value} (h : DriveAt w B D fs c k cr fl dn v) : w.cell? ⟨D, 5, none⟩ = some (.int .i64 c) := by
  have := h.blk.cell 5; simpa using this
theorem DriveAt.files {w : World} {B D : Nat} {fs : List FileD} {c k cr fl : Int} {dn : Bool} {v : Value} (h : DriveAt w B D fs c k cr fl dn v) : ∃ a cap, v = .slice a fs.length cap ∧ FilesIn w a fs := by
  obtain ⟨a, cap, rfl, ho⟩ := owned_of_row h.row
  exact ⟨a, cap, rfl, ho.files⟩
theorem DriveAt.put {w w' : World} {B D g cap i : Nat} {fs : List FileD} {f : FileD} {c k cr fl : Int} {dn : Bool} {cur' : Array Value} (h : DriveAt w B D fs c k cr fl dn (.slice (some ⟨g, 0, none⟩) fs.length cap)) (hbut : But g w w')
    (hb : Blk w' g cur' 71) (hs : cur'.size = cap * 3) (hr : ∀ m (hm : m < fs.length), RowFile cur' 0 m (if m = i then f else fs[m])) : DriveAt w' B D (fs.set i f) c k cr fl dn (.slice (some ⟨g, 0, none⟩) fs.length cap) := by
  obtain ⟨cur, hB, _, hn, hm, _, _⟩ := files_of_row h.row
  refine ⟨h.from', Blk.keeps h.blk (Keeps.but hbut) (fun e => h.apart g rfl e.symm), ?_, h.apart⟩
  have e : (fs.set i f).length = fs.length := List.length_set ..
  have := row_of_files (fs := fs.set i f) hB hb (by rw [e]; exact hn) hm hs (fun j hj => by
    have h1 := hr j (by omega)
    rw [List.getElem_set]
    by_cases e2 : j = i
    · subst e2; simpa using h1
    · rw [if_neg e2] at h1; rw [if_neg (Ne.symm e2)]; exact h1)
  rw [e] at this
  rw [e]
  exact this
set_option maxHeartbeats 400000 in
theorem write_any (b o : Nat) (cur : Array Value) (t : TypeId) (d x : ByteArray) (w : World) (hb : Blk w b cur t) (h1 : cur[o + 1]? = some (.string d)) (hl : d.size + x.size ≤ 4000000000) :
    Calls Tryz.prog 75 #[.pointer (some ⟨b, o, none⟩), .string x] w fun e w' => e = .returned (.tuple #[]) ∧ w' = w.setCell ⟨b, o + 1, none⟩ (.string (d ++ x)) := by
  have c1 := hb.cell (o + 1)
  rw [h1] at c1
  have f1 := hb.free (o + 1)
  clear hb h1
  go_enter Tryz.func75, Tryz.ntmps75
  go_wp2
  go_end0
  exact ⟨rfl, rfl⟩
theorem rows_put {cur : Array Value} {fs : List FileD} {i : Nat} (hi : i < fs.length) (h : ∀ m (hm : m < fs.length), RowFile cur 0 m fs[m]) (x : ByteArray) (s : Int) :
    ∀ m (hm : m < fs.length), RowFile ((cur.setIfInBounds (i * 3 + 1) (.string x)).setIfInBounds (i * 3 + 2) (.int .i64 s)) 0 m (if m = i then ⟨fs[i].name, x, s⟩ else fs[m]) := by
  intro m hm
  by_cases e : m = i
  · subst e
    rw [if_pos rfl]
    obtain ⟨a1, a2, a3⟩ := h m hm
    have l2 := (Array.getElem?_eq_some_iff.1 a2).1
    have l3 := (Array.getElem?_eq_some_iff.1 a3).1
    rw [Nat.zero_add] at l2 l3
    refine ⟨?_, ?_, ?_⟩
    · rw [Array.getElem?_setIfInBounds_ne (by omega), Array.getElem?_setIfInBounds_ne (by omega)]; exact a1
    · rw [Nat.zero_add, Array.getElem?_setIfInBounds_ne (by omega)]
      simp [l2]
    · rw [Nat.zero_add]
      simp [l3]
  · rw [if_neg e]
    exact ((h m hm).set (by omega) _).set (by omega) _
theorem rows_put1 {cur : Array Value} {fs : List FileD} {i : Nat} (hi : i < fs.length) (h : ∀ m (hm : m < fs.length), RowFile cur 0 m fs[m]) (x : ByteArray) :
    ∀ m (hm : m < fs.length), RowFile (cur.setIfInBounds (i * 3 + 1) (.string x)) 0 m (if m = i then ⟨fs[i].name, x, fs[i].synced⟩ else fs[m]) := by
  intro m hm
  by_cases e : m = i
  · subst e
    rw [if_pos rfl]
    obtain ⟨a1, a2, a3⟩ := h m hm
    have l2 := (Array.getElem?_eq_some_iff.1 a2).1
    rw [Nat.zero_add] at l2
    refine ⟨?_, ?_, ?_⟩
    · rw [Array.getElem?_setIfInBounds_ne (by omega)]; exact a1
    · rw [Nat.zero_add]
      simp [l2]
    · rw [Array.getElem?_setIfInBounds_ne (by omega)]; exact a3
  · rw [if_neg e]
    exact (h m hm).set (by omega) _
theorem rows_put2 {cur : Array Value} {fs : List FileD} {i : Nat} (hi : i < fs.length) (h : ∀ m (hm : m < fs.length), RowFile cur 0 m fs[m]) (s : Int) :
    ∀ m (hm : m < fs.length), RowFile (cur.setIfInBounds (i * 3 + 2) (.int .i64 s)) 0 m (if m = i then ⟨fs[i].name, fs[i].data, s⟩ else fs[m]) := by
  intro m hm
  by_cases e : m = i
  · subst e
    rw [if_pos rfl]
    obtain ⟨a1, a2, a3⟩ := h m hm
    have l3 := (Array.getElem?_eq_some_iff.1 a3).1
    rw [Nat.zero_add] at l3
    refine ⟨?_, ?_, ?_⟩
    · rw [Array.getElem?_setIfInBounds_ne (by omega)]; exact a1
    · rw [Array.getElem?_setIfInBounds_ne (by omega)]; exact a2
    · rw [Nat.zero_add]
      simp [l3]
  · rw [if_neg e]
    exact (h m hm).set (by omega) _
set_option maxRecDepth 100000 in
set_option maxHeartbeats 1000000 in
theorem truncate_bad (b o : Nat) (cur : Array Value) (t : TypeId) (d : ByteArray) (s : Int) (w : World) (hb : Blk w b cur t) (h1 : cur[o + 1]? = some (.string d)) (hs : btwB s 0 d.size = false) :
    Calls Tryz.prog 64 #[.pointer (some ⟨b, o, none⟩), .int .i64 s] w fun e w' => e = .returned (errV 6) ∧ Below w.heap.size w w' := by
  have c1 := hb.cell (o + 1)
  rw [h1] at c1
  have HS : Hid (btwB s 0 d.size = false) := hs
  clear hb h1 hs
  go_enter Tryz.func64, Tryz.ntmps64
  go_wp2_with fail
  refine (within_is HS.out _).mono ?_
  rintro e w' ⟨rfl, rfl⟩
  go_wp2
  go_ret
  exact ⟨rfl, Below.refl _ _⟩
set_option maxRecDepth 100000 in
set_option maxHeartbeats 1000000 in
theorem truncate_ok (b o : Nat) (cur : Array Value) (t : TypeId) (d : ByteArray) (s : Int) (w : World) (hb : Blk w b cur t) (h1 : cur[o + 1]? = some (.string d)) (h2 : o + 2 < cur.size) (hs : btwB s 0 d.size = true) (hd : d.size ≤ 1000000000) :
    Calls Tryz.prog 64 #[.pointer (some ⟨b, o, none⟩), .int .i64 s] w fun e w' => e = .returned (errV 0) ∧ But b w w' ∧
      Blk w' b ((cur.setIfInBounds (o + 1) (.string (d.extract 0 s.toNat))).setIfInBounds (o + 2) (.int .i64 s)) t := by
  have c1 := hb.cell (o + 1)
  rw [h1] at c1
  have f1 := hb.free (o + 1)
  have HS : Hid (btwB s 0 d.size = true) := hs
  have hs0 : 0 ≤ s ∧ s ≤ d.size := by simpa [btwB] using hs
  obtain ⟨hs0, hs1⟩ := hs0
  have HB : Hid (Blk w b cur t) := hb
  have H1 : Hid (o + 1 < cur.size) := (Array.getElem?_eq_some_iff.1 h1).1
  have H2 : Hid (o + 2 < cur.size) := h2
  clear hb h1 hs h2
  go_enter Tryz.func64, Tryz.ntmps64
  go_wp2_with fail
  refine (within_is HS.out _).mono ?_
  rintro e w' ⟨rfl, rfl⟩
  go_wp2_with fail
  refine (sync_any b o _ t (d.extract 0 s.toNat) _ (HB.out.set (o + 1) (.string (d.extract 0 s.toNat))) (by have := H1.out; simp [Array.getElem?_setIfInBounds]; omega) (by have := H2.out; simp; omega)).mono ?_
  rintro e w1 ⟨rfl, hw1⟩
  have HF : Hid (But b w' w1) := by show But b w' w1; rw [hw1]; exact ((But.refl _ _).setCell _ _).setCell _ _
  have E3 : Hid (((d.extract 0 s.toNat).size : Int) = s) := by show _ = _; rw [ByteArray.size_extract]; omega
  have HG : Hid (Blk w1 b ((cur.setIfInBounds (o + 1) (.string (d.extract 0 s.toNat))).setIfInBounds (o + 2) (.int .i64 s)) t) := by
    have h := (HB.out.set (o + 1) (.string (d.extract 0 s.toNat))).set (o + 2) (.int .i64 ((d.extract 0 s.toNat).size : Nat))
    show Blk _ _ _ _
    rw [hw1]
    rw [E3.out] at h ⊢
    exact h
  clear hw1
  go_wp2
  go_ret
  exact ⟨rfl, HF.out, HG.out⟩
end Go.Proofs.YtboofidegpnkaaaGreatDoor
namespace Go.Proofs.YtboofidegpnkaaaGreatDoor
open Go.RowKit
def KeepO (w w' : World) : Prop := ∀ b cur t, Blk w b cur t → t ≠ 71 → t ≠ 77 → Blk w' b cur t
theorem KeepO.trans {a b c : World} (h : KeepO a b) (k : KeepO b c) : KeepO a c := fun x cur t hx h1 h2 => k x cur t (h x cur t hx h1 h2) h1 h2
theorem KeepO.of {w w' : World} (h : Below w.heap.size w w') : KeepO w w' := fun _ _ _ hx _ _ => hx.later h
theorem KeepO.keeps {S : Nat → Prop} {w w' : World} (h : Keeps S w w') (hS : ∀ k, S k → ∃ cur t, Blk w k cur t ∧ (t = 71 ∨ t = 77)) : KeepO w w' := fun x cur t hx h1 h2 => hx.keeps h (fun hs => by
  obtain ⟨cur', t', hb, ht⟩ := hS x hs
  have e := (show w.heap[x]? = _ from hx).symm.trans hb
  simp only [Option.some.injEq, Obj.cells.injEq] at e
  rcases ht with ht | ht
  · exact h1 (e.2.1.trans ht)
  · exact h2 (e.2.1.trans ht))
theorem KeepO.set {w : World} {g o : Nat} {cur : Array Value} {t : TypeId} (hb : Blk w g cur t) (ht : t = 71 ∨ t = 77) (v : Value) : KeepO w (w.setCell ⟨g, o, none⟩ v) :=
  KeepO.keeps (S := fun k => k = g) ((Keeps.refl (fun k => k = g) w).setCell (g := g) rfl o v) (fun k e => ⟨cur, t, by rw [e]; exact hb, ht⟩)
theorem own_file {w : World} {B : Nat} {v : Value} {n : Nat} {xs : List Value} (h : w.ownsRow B 71 3 v n xs) : ∀ g, v.ownBlock = some g → ∃ cur, Blk w g cur 71 := by
  intro g hg
  rcases h.2 with ⟨rfl, _⟩ | ⟨g', cap, cur, rfl, _, hb, _⟩
  · simp [Value.ownBlock] at hg
  · simp [Value.ownBlock] at hg
    subst hg
    exact ⟨cur, hb⟩
structure Rest (B : Nat) (w w' : World) : Prop where
  below : Below B w w'
  other : KeepO w w'
theorem Rest.trans {B : Nat} {a b c : World} (h : Rest B a b) (k : Rest B b c) : Rest B a c := ⟨h.below.trans k.below, h.other.trans k.other⟩
theorem Rest.of {B : Nat} {w w' : World} (h : Below w.heap.size w w') (hB : B ≤ w.heap.size) : Rest B w w' := ⟨h.mono hB, KeepO.of h⟩
theorem Rest.on {B : Nat} {a w w' : World} (h : Rest B a w) (k : Below w.heap.size w w') (hB : B ≤ w.heap.size) : Rest B a w' := h.trans (Rest.of k hB)
theorem Rest.set {B g o : Nat} {a w : World} {cur : Array Value} {t : TypeId} (h : Rest B a w) (hb : Blk w g cur t) (ht : t = 71 ∨ t = 77) (hg : B ≤ g) (v : Value) : Rest B a (w.setCell ⟨g, o, none⟩ v) :=
  ⟨h.below.setCell (by show B ≤ g; exact hg) _, h.other.trans (KeepO.set hb ht v)⟩
theorem Rest.but {B g : Nat} {a w w' : World} {cur : Array Value} {t : TypeId} (h : Rest B a w) (k : But g w w') (hb : Blk w g cur t) (ht : t = 71 ∨ t = 77) (hg : B ≤ g) (hB : B ≤ w.heap.size) : Rest B a w' :=
  ⟨h.below.trans (k.below hg hB), h.other.trans (KeepO.keeps (Keeps.but k) (fun j e => ⟨cur, t, by rw [e]; exact hb, ht⟩))⟩
theorem Rest.charge {B D : Nat} {fs : List FileD} {c k cr fl : Int} {dn : Bool} {v : Value} {w w1 : World} {o : Obj} (h : DriveAt w B D fs c k cr fl dn v) (hB : B ≤ w.heap.size) (hbut : But D (w.alloc o) w1) : Rest B w w1 :=
  (Rest.of (bnew w o) hB).but hbut (h.later (bnew w o)).blk (Or.inr rfl) h.from' (by simp; omega)
end Go.Proofs.YtboofidegpnkaaaGreatDoor
namespace Go.Proofs.YtboofidegpnkaaaGreatDoor
open Go.RowKit
theorem DriveAt.turn {w w' : World} {B D : Nat} {fs fs' : List FileD} {c k cr fl : Int} {dn : Bool} {v v' : Value} (h : DriveAt w B D fs c k cr fl dn v) (hb : Blk w' D #[.int .i64 k, .int .i64 cr, .int .i64 fl, .bool dn, v', .int .i64 c] 77)
    (hr : w'.ownsRow B 71 3 v' fs'.length (flat fs')) (ha : ∀ g, v'.ownBlock = some g → g ≠ D) : DriveAt w' B D fs' c k cr fl dn v' := ⟨h.from', hb, hr, ha⟩
theorem row_set_apart {w : World} {B : Nat} {e : TypeId} {size : Nat} {v : Value} {n : Nat} {xs : List Value} (h : w.ownsRow B e size v n xs) {D : Nat} (hD : ∀ g, v.ownBlock = some g → g ≠ D) (o : Nat) (u : Value) : (w.setCell ⟨D, o, none⟩ u).ownsRow B e size v n xs := by
  obtain ⟨h1, h2⟩ := h
  refine ⟨h1, ?_⟩
  rcases h2 with h2 | ⟨g, cap, cur, hv, hB, hg, r⟩
  · exact Or.inl h2
  · have hne : g ≠ D := hD g (by rw [hv]; rfl)
    exact Or.inr ⟨g, cap, cur, hv, hB, (Below.heap_setCell w ⟨D, o, none⟩ u g hne).trans hg, r⟩
set_option maxRecDepth 100000 in
set_option maxHeartbeats 1000000 in
theorem remove_any (B D i : Nat) (fs : List FileD) (c k cr fl : Int) (dn : Bool) (v : Value) (w : World) (h : DriveAt w B D fs c k cr fl dn v) (hi : i < fs.length) (hlen : fs.length ≤ 1048576) :
    Calls Tryz.prog 66 #[.pointer (some ⟨D, 0, none⟩), .int .i64 i] w fun e w' =>
      e = .returned (.tuple #[]) ∧ ∃ v', DriveAt w' B D (fs.eraseIdx i) c k cr fl dn v' ∧ v'.ownBlock = v.ownBlock ∧ Keeps (fun k => k = D ∨ v.ownBlock = some k) w w' := by
  obtain ⟨g, cap, rfl, hgD, hBg⟩ := h.slice (by omega)
  have d4 := h.cell4
  have HD : Hid (DriveAt w B D fs c k cr fl dn (.slice (some ⟨g, 0, none⟩) fs.length cap)) := h
  have hw1 : IntKind.i64.wrap ((i : Int) + 1) = (i : Int) + 1 := by rw [IntKind.wrap_i64]; omega
  clear h
  go_enter Tryz.func66, Tryz.ntmps66
  go_wp2_with fail
  refine (delete_any B g cap i fs _ HD.out.row hi hlen).mono ?_
  rintro e w1 ⟨rfl, hrow, hk⟩
  have hblk := HD.out.blk.keeps hk (fun e => hgD e.symm)
  have e4 := hblk.cell 4
  have f4 := hblk.free 4
  simp only [List.getElem?_toArray, List.getElem?_cons_zero, List.getElem?_cons_succ] at e4
  have HR : Hid (w1.ownsRow B 71 3 (.slice (some ⟨g, 0, none⟩) (fs.length - 1) cap) (fs.length - 1) (flat (fs.eraseIdx i))) := hrow
  have HK : Hid (Keeps (fun k => k = g) w w1) := hk
  have HB : Hid (Blk w1 D #[.int .i64 k, .int .i64 cr, .int .i64 fl, .bool dn, .slice (some ⟨g, 0, none⟩) fs.length cap, .int .i64 c] 77) := hblk
  clear hrow hk hblk
  go_wp2
  go_end0
  refine ⟨rfl, .slice (some ⟨g, 0, none⟩) (fs.length - 1) cap, HD.out.turn ?_ ?_ (fun g' e => by simp [Value.ownBlock] at e; omega), rfl, ?_⟩
  · have := HB.out.set 4 (.slice (some ⟨g, 0, none⟩) (fs.length - 1) cap)
    simpa using this
  · have e : (fs.eraseIdx i).length = fs.length - 1 := by rw [List.length_eraseIdx, if_pos hi]
    rw [e]
    exact row_set_apart HR.out (fun g' e => by simp [Value.ownBlock] at e; omega) _ _
  · have hk2 : Keeps (fun k' => k' = D ∨ (Value.slice (some ⟨g, 0, none⟩) fs.length cap).ownBlock = some k') w w1 := HK.out.mono (fun k' e => Or.inr (by subst e; rfl))
    exact hk2.setCell (Or.inl rfl) _ _
theorem bytesOf_is {a : Option Addr} {cap : Nat} {fs : List FileD} (w : World) (hf : FilesIn w a fs) (hlen : fs.length ≤ maxLen) (hsum : sumLen fs ≤ 1000000000) :
    Calls Tryz.prog 45 #[.slice a fs.length cap] w fun e w' => e = .returned (.int .i64 (sumLen fs)) ∧ Below w.heap.size w w' := bytesOf_any a cap fs w hf hlen hsum
set_option maxRecDepth 100000 in
set_option maxHeartbeats 1000000 in
theorem appendTo_any (B D i : Nat) (fs : List FileD) (c k cr fl : Int) (dn : Bool) (v : Value) (x : ByteArray) (w : World) (h : DriveAt w B D fs c k cr fl dn v) (hi : i < fs.length) (hlen : fs.length ≤ 1048576) (hsum : (sumLen fs : Int) ≤ c) (hc : c ≤ 1000000000) :
    Calls Tryz.prog 62 #[.pointer (some ⟨D, 0, none⟩), .int .i64 i, .string x] w fun e w' =>
      ((c < sumLen fs + x.size ∧ e = .returned (errV 3) ∧ DriveAt w' B D fs c k cr fl dn v) ∨ (sumLen fs + x.size ≤ c ∧ e = .returned (errV 0) ∧ DriveAt w' B D (fs.set i ⟨fs[i].name, fs[i].data ++ x, fs[i].synced⟩) c k cr fl dn v)) ∧ Rest B w w' := by
  obtain ⟨g, cap, rfl, hgD, hBg⟩ := h.slice (by omega)
  obtain ⟨a', cap', ea, hfin⟩ := h.files
  have d4 := Later.cells h.cell4
  have d5 := Later.cells h.cell5
  have hne := Later.there w
  have HD : Hid (DriveAt w B D fs c k cr fl dn (.slice (some ⟨g, 0, none⟩) fs.length cap)) := h
  have HF : Hid (FilesIn w (some ⟨g, 0, none⟩) fs) := by
    simp only [Value.slice.injEq] at ea
    obtain ⟨rfl, _⟩ := ea
    exact hfin
  have hw1 : IntKind.i64.wrap (c - (sumLen fs : Int)) = c - (sumLen fs : Int) := by rw [IntKind.wrap_i64]; omega
  have HFx : Hid (∀ x : Later w, FilesIn x.w' (some ⟨g, 0, none⟩) fs) := fun x => HF.out.later x.h
  have HDx : Hid (∀ x : Later w, DriveAt x.w' B D fs c k cr fl dn (.slice (some ⟨g, 0, none⟩) fs.length cap)) := fun x => HD.out.later x.h
  have hml : fs.length ≤ maxLen := by simp [maxLen]; omega
  have hsl : sumLen fs ≤ 1000000000 := by omega
  clear h ea hfin
  by_cases hf : c - (sumLen fs : Int) < (x.size : Int)
  · go_enter Tryz.func62, Tryz.ntmps62
    go_wp2_with fail
    refine wp_region_later (by kernel_rfl) (by kernel_rfl) ?_
    repeat (go_big_quiet_step (first | (go_at_call 45; exact calls_later (bytesOf_any _ _ _ _ (HFx.out _) hml hsl))))
    refine wpQuiet_nil ?_
    rintro _ ⟨y, rfl⟩
    have HY : Hid (Below w.heap.size w y.w') := y.h
    have HZ : Hid (DriveAt y.w' B D fs c k cr fl dn (.slice (some ⟨g, 0, none⟩) fs.length cap)) := HDx.out y
    have hB : B ≤ w.heap.size := HD.out.size
    clear d4 d5 hne HDx HFx
    generalize y.w' = W at *
    clear y
    go_wp2
    go_ret
    exact ⟨Or.inl ⟨by omega, rfl, HZ.out⟩, Rest.of HY.out hB⟩
  · go_enter Tryz.func62, Tryz.ntmps62
    go_wp2_with fail
    refine wp_region_later (by kernel_rfl) (by kernel_rfl) ?_
    repeat (go_big_quiet_step (first | (go_at_call 45; exact calls_later (bytesOf_any _ _ _ _ (HFx.out _) hml hsl))))
    refine wpQuiet_nil ?_
    rintro _ ⟨y, rfl⟩
    have HY : Hid (Below w.heap.size w y.w') := y.h
    have HZ : Hid (DriveAt y.w' B D fs c k cr fl dn (.slice (some ⟨g, 0, none⟩) fs.length cap)) := HDx.out y
    have hB : B ≤ w.heap.size := HD.out.size
    have e4 := (HDx.out y).cell4
    clear d4 d5 hne HDx HFx
    generalize y.w' = W at *
    clear y
    obtain ⟨cur, _, hblk, hnc, hcm, hcs, hrows⟩ := files_of_row HZ.out.row
    have hr1 := (hrows i hi).2.1
    rw [Nat.zero_add] at hr1
    have hdl : fs[i].data.size ≤ sumLen fs := by
      have h1 := sumLen_take_succ fs i hi
      have h2 := sumLen_take_le fs (i + 1)
      omega
    have HW : Hid (Calls Tryz.prog 75 #[.pointer (some ⟨g, i * 3, none⟩), .string x] W fun e w' => e = .returned (.tuple #[]) ∧ w' = W.setCell ⟨g, i * 3 + 1, none⟩ (.string (fs[i].data ++ x))) := write_any g (i * 3) cur 71 fs[i].data x W hblk hr1 (by omega)
    have HP : Hid (DriveAt (W.setCell ⟨g, i * 3 + 1, none⟩ (.string (fs[i].data ++ x))) B D (fs.set i ⟨fs[i].name, fs[i].data ++ x, fs[i].synced⟩) c k cr fl dn (.slice (some ⟨g, 0, none⟩) fs.length cap)) :=
      HZ.out.put ((But.refl _ _).setCell _ _) (hblk.set _ _) (by simp [hcs]) (rows_put1 hi hrows _)
    have HB : Hid (Rest B w (W.setCell ⟨g, i * 3 + 1, none⟩ (.string (fs[i].data ++ x)))) := (Rest.of HY.out hB).set hblk (Or.inl rfl) (by omega) _
    clear hblk hrows hr1
    go_wp2_with fail
    refine HW.out.mono ?_
    rintro e w3 ⟨rfl, rfl⟩
    go_wp2
    go_ret
    exact ⟨Or.inr ⟨by omega, rfl, HP.out⟩, HB.out⟩
end Go.Proofs.YtboofidegpnkaaaGreatDoor
namespace Go.Proofs.YtboofidegpnkaaaGreatDoor
open Go.RowKit
theorem row_from {w : World} {B : Nat} {e : TypeId} {size : Nat} {v : Value} {n : Nat} {xs : List Value} (h : w.ownsRow B e size v n xs) : ∀ g, v.ownBlock = some g → B ≤ g := by
  intro g hg
  rcases h.2 with ⟨rfl, _⟩ | ⟨g', cap, cur, rfl, hB, _⟩
  · simp [Value.ownBlock] at hg
  · simp [Value.ownBlock] at hg
    subst hg
    exact hB
theorem DriveAt.inserted {w w1 : World} {B D i : Nat} {fs : List FileD} {f : FileD} {c k cr fl : Int} {dn : Bool} {v v' : Value} (h : DriveAt w B D fs c k cr fl dn v) (hi : i ≤ fs.length)
    (hr : w1.ownsRow B 71 3 v' (fs.length + 1) (flat (insL fs i f))) (hk : Keeps (fun k => v.ownBlock = some k) w w1) (hat : v'.ownBlock = v.ownBlock ∨ v'.ownBlock = some w.heap.size) :
    DriveAt (w1.setCell ⟨D, 4, none⟩ v') B D (insL fs i f) c k cr fl dn v' ∧ Rest B w (w1.setCell ⟨D, 4, none⟩ v') := by
  have hD : D < w.heap.size := lt_of_block h.blk
  have hap : ∀ g, v'.ownBlock = some g → g ≠ D := fun g hg => by
    rcases hat with e | e
    · exact h.apart g (by rw [← e]; exact hg)
    · rw [e] at hg; simp at hg; omega
  have hb := h.blk.keeps hk (fun e => h.apart D e rfl)
  refine ⟨⟨h.from', ?_, ?_, hap⟩, ?_⟩
  · have := hb.set 4 v'
    simpa using this
  · rw [insL_length fs i f hi]
    exact row_set_apart hr hap _ _
  · have h1 : Rest B w w1 := ⟨hk.below (fun g hg => row_from h.row g hg) h.size, KeepO.keeps hk (fun g hg => by
      obtain ⟨cur, hc⟩ := own_file h.row g hg
      exact ⟨cur, _, hc, Or.inl rfl⟩)⟩
    exact h1.set hb (Or.inr rfl) h.from' _
set_option maxRecDepth 100000 in
set_option maxHeartbeats 1000000 in
theorem create_any (B D : Nat) (fs : List FileD) (c k cr fl : Int) (dn : Bool) (v : Value) (nm : ByteArray) (w : World) (h : DriveAt w B D fs c k cr fl dn v) (hasc : Asc fs) (hlen : fs.length ≤ 1048576) :
    Calls Tryz.prog 60 #[.pointer (some ⟨D, 0, none⟩), .string nm] w fun e w' => ∃ i v', PosIs fs nm i ∧ Rest B w w' ∧
      ((hasB fs nm i = true ∧ e = .returned (errV 5) ∧ DriveAt w' B D fs c k cr fl dn v') ∨ (hasB fs nm i = false ∧ 1000 ≤ fs.length ∧ e = .returned (errV 3) ∧ DriveAt w' B D fs c k cr fl dn v') ∨
        (hasB fs nm i = false ∧ fs.length < 1000 ∧ e = .returned (errV 0) ∧ DriveAt w' B D (insL fs i ⟨nm, ByteArray.empty, 0⟩) c k cr fl dn v')) := by
  obtain ⟨a, cap, rfl, hfin⟩ := h.files
  have d4 := h.cell4
  have HD : Hid (DriveAt w B D fs c k cr fl dn (.slice a fs.length cap)) := h
  have HF : Hid (FilesIn w a fs) := hfin
  have HA : Hid (Asc fs) := hasc
  clear h hfin hasc
  go_enter Tryz.func60, Tryz.ntmps60
  go_wp2_with fail
  refine (findFile_any a cap fs nm _ HF.out HA.out hlen).mono ?_
  rintro e w1 ⟨i, hp, rfl, hb1⟩
  have HP : Hid (PosIs fs nm i) := hp
  have hile : i ≤ fs.length := hp.1
  have HD1 : Hid (DriveAt w1 B D fs c k cr fl dn (.slice a fs.length cap)) := HD.out.later hb1
  have HB1 : Hid (Rest B w w1) := Rest.of hb1 HD.out.size
  have e4 := HD1.out.cell4
  clear d4 hb1 hp
  cases hq : hasB fs nm i with
  | true =>
    have HQ : Hid (hasB fs nm i = true) := hq
    clear hq
    go_wp2
    go_ret
    exact ⟨i, _, HP.out, HB1.out, Or.inl ⟨HQ.out, rfl, HD1.out⟩⟩
  | false =>
    have HQ : Hid (hasB fs nm i = false) := hq
    clear hq
    by_cases hm : (1000 : Int) ≤ (fs.length : Int)
    · go_wp2
      go_ret
      exact ⟨i, _, HP.out, HB1.out, Or.inr (Or.inl ⟨HQ.out, by omega, rfl, HD1.out⟩)⟩
    · go_wp2_with fail
      have hD2 := HD1.out.later (bnew w1 (.cells #[.string nm, .string ByteArray.empty, .int .i64 0] 71))
      refine (insert_any B w1.heap.size i (.slice a fs.length cap) fs ⟨nm, ByteArray.empty, 0⟩ _ hD2.row (heap_alloc_new _ _) (fun e => by have := row_block_lt HD1.out.row _ e; omega) hile hlen hD2.size).mono ?_
      rintro e w2 ⟨v', rfl, hrow, hk, hat⟩
      obtain ⟨hdr, hbel⟩ := hD2.inserted hile hrow hk hat
      have hblk := hD2.blk.keeps hk (fun e => hD2.apart D e rfl)
      obtain ⟨a', cap', rfl⟩ := row_form hrow
      have g4 := hblk.cell 4
      have f4 := hblk.free 4
      simp only [List.getElem?_toArray, List.getElem?_cons_zero, List.getElem?_cons_succ] at g4
      have HR : Hid (DriveAt (w2.setCell ⟨D, 4, none⟩ (.slice a' (fs.length + 1) cap')) B D (insL fs i ⟨nm, ByteArray.empty, 0⟩) c k cr fl dn (.slice a' (fs.length + 1) cap')) := hdr
      have HS : Hid (Rest B w (w2.setCell ⟨D, 4, none⟩ (.slice a' (fs.length + 1) cap'))) := (HB1.out.on (bnew _ _) HD1.out.size).trans hbel
      clear hdr hbel hblk hrow hk hat hD2 e4
      go_wp2
      go_ret
      exact ⟨i, _, HP.out, HS.out, Or.inr (Or.inr ⟨HQ.out, by omega, rfl, HR.out⟩)⟩
end Go.Proofs.YtboofidegpnkaaaGreatDoor
namespace Go.Proofs.YtboofidegpnkaaaGreatDoor
open Go.RowKit
theorem rows_put3 {cur : Array Value} {fs : List FileD} {i : Nat} (hi : i < fs.length) (h : ∀ m (hm : m < fs.length), RowFile cur 0 m fs[m]) (f : FileD) :
    ∀ m (hm : m < fs.length), RowFile (((cur.setIfInBounds (i * 3) (.string f.name)).setIfInBounds (i * 3 + 1) (.string f.data)).setIfInBounds (i * 3 + 2) (.int .i64 f.synced)) 0 m (if m = i then f else fs[m]) := by
  intro m hm
  by_cases e : m = i
  · subst e
    rw [if_pos rfl]
    have l3 := (Array.getElem?_eq_some_iff.1 (h m hm).2.2).1
    have := RowFile.made cur 0 m f l3
    simpa only [Nat.zero_add] using this
  · rw [if_neg e]
    exact (((h m hm).set (by omega) _).set (by omega) _).set (by omega) _
set_option maxRecDepth 100000 in
set_option maxHeartbeats 2000000 in
theorem rename_any (B D i : Nat) (fs : List FileD) (c k cr fl : Int) (dn : Bool) (v : Value) (to : ByteArray) (w : World) (h : DriveAt w B D fs c k cr fl dn v) (hi : i < fs.length) (hasc : Asc (fs.eraseIdx i)) (hlen : fs.length ≤ 1048576) :
    Calls Tryz.prog 65 #[.pointer (some ⟨D, 0, none⟩), .int .i64 i, .string to] w fun e w' => e = .returned (.tuple #[]) ∧ ∃ j v', PosIs (fs.eraseIdx i) to j ∧ Below B w w' ∧
      ((hasB (fs.eraseIdx i) to j = true ∧ DriveAt w' B D ((fs.eraseIdx i).set j ⟨to, fs[i].data, fs[i].synced⟩) c k cr fl dn v') ∨ (hasB (fs.eraseIdx i) to j = false ∧ DriveAt w' B D (insL (fs.eraseIdx i) j ⟨to, fs[i].data, fs[i].synced⟩) c k cr fl dn v')) := by
  obtain ⟨g, cap, rfl, hgD, hBg⟩ := h.slice (by omega)
  obtain ⟨cur, _, hblk, hnc, hcm, hcs, hrows⟩ := files_of_row h.row
  obtain ⟨r0, r1, r2⟩ := hrows i hi
  rw [Nat.zero_add] at r0 r1 r2
  have c0 := hblk.cell (i * 3)
  have c1 := hblk.cell (i * 3 + 1)
  have c2 := hblk.cell (i * 3 + 2)
  rw [r0] at c0
  rw [r1] at c1
  rw [r2] at c2
  have d4 := h.cell4
  have HD : Hid (DriveAt w B D fs c k cr fl dn (.slice (some ⟨g, 0, none⟩) fs.length cap)) := h
  have HA : Hid (Asc (fs.eraseIdx i)) := hasc
  have hgl : g < w.heap.size := lt_of_block hblk
  have hDl : D < w.heap.size := lt_of_block h.blk
  clear h hasc hblk hrows r0 r1 r2
  go_enter Tryz.func65, Tryz.ntmps65
  go_wp2_with fail
  refine (remove_any B D i fs c k cr fl dn _ _ (HD.out.later (bnew w (.cells #[.string to, .string fs[i].data, .int .i64 fs[i].synced] 71))) hi hlen).mono ?_
  rintro e w1 ⟨rfl, v1, hdr, hob, hk⟩
  have HF1 : Hid (Blk w1 w.heap.size #[.string to, .string fs[i].data, .int .i64 fs[i].synced] 71) := Blk.keeps (heap_alloc_new _ _) hk (fun e => by
    rcases e with e | e
    · omega
    · simp [Value.ownBlock] at e; omega)
  have HB1 : Hid (Below B w w1) := ((bnew _ _).mono HD.out.size).trans (hk.below (fun k e => by
    rcases e with e | e
    · have := HD.out.from'; omega
    · simp [Value.ownBlock] at e; omega) (by have := HD.out.size; simp; omega))
  have hl1 : (fs.eraseIdx i).length ≤ 1048576 := by rw [List.length_eraseIdx, if_pos hi]; omega
  have hv1 : v1.ownBlock = some g := hob
  obtain ⟨a1, cap1, rfl, hfin⟩ := hdr.files
  have HV1 : Hid ((Value.slice a1 (fs.eraseIdx i).length cap1).ownBlock = some g) := hv1
  have HD1 : Hid (DriveAt w1 B D (fs.eraseIdx i) c k cr fl dn (.slice a1 (fs.eraseIdx i).length cap1)) := hdr
  have HFI : Hid (FilesIn w1 a1 (fs.eraseIdx i)) := hfin
  have e4 := hdr.cell4
  clear c0 c1 c2 d4 hdr hk hfin hob hv1
  generalize hes : fs.eraseIdx i = es at *
  go_wp2_with fail
  refine (findFile_any a1 cap1 es to _ HFI.out HA.out hl1).mono ?_
  rintro e w2 ⟨j, hp, rfl, hb2⟩
  have HP : Hid (PosIs es to j) := hp
  have hjle : j ≤ es.length := hp.1
  have HD2 : Hid (DriveAt w2 B D es c k cr fl dn (.slice a1 es.length cap1)) := HD1.out.later hb2
  have HB2 : Hid (Below B w w2) := HB1.out.trans (hb2.mono HD1.out.size)
  have HF2 : Hid (Blk w2 w.heap.size #[.string to, .string fs[i].data, .int .i64 fs[i].synced] 71) := HF1.out.later hb2
  have g4 := HD2.out.cell4
  have x0 := HF2.out.cell 0
  have x1 := HF2.out.cell 1
  have x2 := HF2.out.cell 2
  simp only [List.getElem?_toArray, List.getElem?_cons_zero, List.getElem?_cons_succ] at x0 x1 x2
  clear e4 hb2 hp HFI HD1 HB1 HF1
  cases hq : hasB es to j with
  | true =>
    have HQ : Hid (hasB es to j = true) := hq
    have hjl : j < es.length := by
      rcases Nat.lt_or_ge j es.length with h | h
      · exact h
      · rw [hasB, List.getElem?_eq_none h] at hq; exact absurd hq (by simp)
    obtain ⟨g', cap', ev, _, _⟩ := HD2.out.slice (by omega)
    obtain rfl : g' = g := by have := HV1.out; rw [ev] at this; simpa [Value.ownBlock] using this
    simp only [Value.slice.injEq] at ev
    obtain ⟨rfl, _, rfl⟩ := ev
    obtain ⟨cur2, _, hblk, hnc2, hcm2, hcs2, hrows⟩ := files_of_row HD2.out.row
    have hsz2 : j * 3 + 2 < cur2.size := by omega
    obtain ⟨y0, z0⟩ := hblk.there (j := j * 3) (by omega)
    obtain ⟨y1, z1⟩ := hblk.there (j := j * 3 + 1) (by omega)
    obtain ⟨y2, z2⟩ := hblk.there (j := j * 3 + 2) (by omega)
    have k0 := hblk.free (j * 3)
    have k1 := hblk.free (j * 3 + 1)
    have k2 := hblk.free (j * 3 + 2)
    have hbut3 : But g' w2 (((w2.setCell ⟨g', j * 3, none⟩ (.string to)).setCell ⟨g', j * 3 + 1, none⟩ (.string fs[i].data)).setCell ⟨g', j * 3 + 2, none⟩ (.int .i64 fs[i].synced)) := (((But.refl _ _).setCell _ _).setCell _ _).setCell _ _
    have HPUT : Hid (DriveAt (((w2.setCell ⟨g', j * 3, none⟩ (.string to)).setCell ⟨g', j * 3 + 1, none⟩ (.string fs[i].data)).setCell ⟨g', j * 3 + 2, none⟩ (.int .i64 fs[i].synced)) B D (es.set j ⟨to, fs[i].data, fs[i].synced⟩) c k cr fl dn (.slice (some ⟨g', 0, none⟩) es.length cap1)) :=
      HD2.out.put hbut3 (((hblk.set (j * 3) (.string to)).set (j * 3 + 1) (.string fs[i].data)).set (j * 3 + 2) (.int .i64 fs[i].synced)) (by simp [hcs2]) (rows_put3 hjl hrows ⟨to, fs[i].data, fs[i].synced⟩)
    have HBL : Hid (Below B w (((w2.setCell ⟨g', j * 3, none⟩ (.string to)).setCell ⟨g', j * 3 + 1, none⟩ (.string fs[i].data)).setCell ⟨g', j * 3 + 2, none⟩ (.int .i64 fs[i].synced))) := HB2.out.trans (hbut3.below hBg HD2.out.size)
    clear hq hblk hrows hbut3
    go_wp2_with fail
    go_region
    go_wp2
    refine bodyPost_ret (results_none rfl _ _ _) rfl ?_
    subst hes
    exact ⟨rfl, j, _, HP.out, HBL.out.drew, Or.inl ⟨HQ.out, HPUT.out.later (Below.refl _ _).drew⟩⟩
  | false =>
    have HQ : Hid (hasB es to j = false) := hq
    have hap2 : (Value.slice a1 es.length cap1).ownBlock ≠ some D := fun e => HD2.out.apart D e rfl
    have hap3 : (Value.slice a1 es.length cap1).ownBlock ≠ some w.heap.size := fun e => by rw [HV1.out] at e; simp at e; omega
    have HDD : Hid (DriveAt (w2.drew.alloc (.cells #[.string to, .string fs[i].data, .int .i64 fs[i].synced] 71)) B D es c k cr fl dn (.slice a1 es.length cap1)) := (HD2.out.later (Below.refl _ _).drew).later (bnew _ _)
    clear hq
    go_wp2_with fail
    have hDl2 : D < w2.heap.size := lt_of_block HD2.out.blk
    have hFl2 : w.heap.size < w2.heap.size := lt_of_block HF2.out
    have hne1 : ¬ (D = w2.heap.size) := by omega
    have hne2 : ¬ (w.heap.size = w2.heap.size) := by omega
    go_region_with (go_at_call 71; refine (insert_any B w2.heap.size j (.slice a1 es.length cap1) es ⟨to, fs[i].data, fs[i].synced⟩ _ HDD.out.row (heap_alloc_new _ _) (fun e => by have := row_block_lt HD2.out.row _ e; omega) hjle hl1 HDD.out.size).mono ?_; rintro e w7 ⟨v', rfl, hrow, hk7, hat⟩; obtain ⟨a7, cap7, rfl⟩ := row_form hrow; have q4 := (HDD.out.blk.keeps hk7 hap2).cell 4; have q5 := (HDD.out.blk.keeps hk7 hap2).free 4; simp only [List.getElem?_toArray, List.getElem?_cons_zero, List.getElem?_cons_succ] at q4)
    all_goals (
      go_wp2
      go_end0
      subst hes
      obtain ⟨hdr, hbel⟩ := HDD.out.inserted hjle hrow hk7 hat
      exact ⟨rfl, j, _, HP.out, HB2.out.trans ((((Below.refl _ _).drew.trans (bnew _ _)).mono HD2.out.size).trans hbel.below), Or.inr ⟨HQ.out, hdr⟩⟩)
end Go.Proofs.YtboofidegpnkaaaGreatDoor
