import Derived.Test.YtijaojnbbfodfacProg
import Derived.Test.YtijaojnbbfodfacClone
import Derived.Deep.RegionHeld3
namespace Go.Proofs.Ytijaojnbbfodfac
open Go.RowKit

theorem row_block_lt {w : World} {B : Nat} {e : TypeId} {size : Nat} {v : Value} {n : Nat} {xs : List Value} (h : w.ownsRow B e size v n xs) : ∀ g, v.ownBlock = some g → g < w.heap.size := by
  intro g hg
  rcases h.2 with ⟨rfl, _⟩ | ⟨g', cap, cur, rfl, _, hb, _⟩
  · simp [Value.ownBlock] at hg
  · simp [Value.ownBlock] at hg
    subst hg
    exact lt_of_block hb

theorem row_form {w : World} {B : Nat} {e : TypeId} {size : Nat} {v : Value} {n : Nat} {xs : List Value} (h : w.ownsRow B e size v n xs) : ∃ a cap, v = .slice a n cap := by
  rcases h.2 with ⟨rfl, rfl⟩ | ⟨g', cap, cur, rfl, _⟩
  · exact ⟨none, 0, rfl⟩
  · exact ⟨_, cap, rfl⟩

theorem row_mono {w : World} {B B' : Nat} {e : TypeId} {size : Nat} {v : Value} {n : Nat} {xs : List Value} (h : w.ownsRow B e size v n xs) (hB : B' ≤ B) : w.ownsRow B' e size v n xs := by
  refine ⟨h.1, ?_⟩
  rcases h.2 with h2 | ⟨g, cap, cur, hv, hb, r⟩
  · exact Or.inl h2
  · exact Or.inr ⟨g, cap, cur, hv, Nat.le_trans hB hb, r⟩

/-- A drive: its six cells at the head of block D; the files in a row of their own. -/
structure DriveAt (w : World) (B D : Nat) (fs : List FileD) (c k cr fl : Int) (dn : Bool) (v : Value) : Prop where
  from' : B ≤ D
  blk : Blk w D #[.int .i64 k, .int .i64 cr, .int .i64 fl, .bool dn, v, .int .i64 c] 73
  row : w.ownsRow B 66 3 v fs.length (flat fs)
  apart : ∀ g, v.ownBlock = some g → g ≠ D

theorem DriveAt.later {w w' : World} {B D : Nat} {fs : List FileD} {c k cr fl : Int} {dn : Bool} {v : Value} (h : DriveAt w B D fs c k cr fl dn v) (hb : Below w.heap.size w w') : DriveAt w' B D fs c k cr fl dn v :=
  ⟨h.from', h.blk.later hb, row_later h.row hb, h.apart⟩

set_option maxRecDepth 100000 in
set_option maxHeartbeats 2000000 in
theorem mount_any (a : Option Addr) (cap : Nat) (fs : List FileD) (c k cr fl : Int) (dn : Bool) (w : World) (hf : FilesIn w a fs) (hlen : fs.length ≤ 1048576) :
    Calls Try.prog 41 #[.agg #[.slice a fs.length cap, .int .i64 c, .int .i64 k, .int .i64 cr, .int .i64 fl, .bool dn]] w fun e w' =>
      ∃ D v, e = .returned (.pointer (some ⟨D, 0, none⟩)) ∧ DriveAt w' w.heap.size D fs c k cr fl dn v ∧ Below w.heap.size w w' := by
  have HF : Hid (FilesIn w a fs) := hf
  clear hf
  obtain ⟨k0, k1, k2, k3, k4, k5⟩ := BoxAt.new w (.slice a fs.length cap) (.int .i64 c) (.int .i64 k) (.int .i64 cr) (.int .i64 fl) (.bool dn) 36
  have HK : Hid (∀ w', Below (w.alloc (.cells #[.slice a fs.length cap, .int .i64 c, .int .i64 k, .int .i64 cr, .int .i64 fl, .bool dn] 36)).heap.size (w.alloc (.cells #[.slice a fs.length cap, .int .i64 c, .int .i64 k, .int .i64 cr, .int .i64 fl, .bool dn] 36)) w' → w'.cell? ⟨w.heap.size, 0, none⟩ = some (.slice a fs.length cap) ∧ w'.cell? ⟨w.heap.size, 1, none⟩ = some (.int .i64 c) ∧ w'.cell? ⟨w.heap.size, 2, none⟩ = some (.int .i64 k) ∧ w'.cell? ⟨w.heap.size, 3, none⟩ = some (.int .i64 cr) ∧ w'.cell? ⟨w.heap.size, 4, none⟩ = some (.int .i64 fl) ∧ w'.cell? ⟨w.heap.size, 5, none⟩ = some (.bool dn)) := fun w' h =>
    (BoxAt.new w (.slice a fs.length cap) (.int .i64 c) (.int .i64 k) (.int .i64 cr) (.int .i64 fl) (.bool dn) 36).later h
  go_enter Try.func41, Try.ntmps41
  go_wp2_with fail
  go_region_held3 (fun w' => w'.cell? ⟨w.heap.size, 0, none⟩ = some (.slice a fs.length cap) ∧ w'.cell? ⟨w.heap.size, 1, none⟩ = some (.int .i64 c) ∧ w'.cell? ⟨w.heap.size, 2, none⟩ = some (.int .i64 k) ∧ w'.cell? ⟨w.heap.size, 3, none⟩ = some (.int .i64 cr) ∧ w'.cell? ⟨w.heap.size, 4, none⟩ = some (.int .i64 fl) ∧ w'.cell? ⟨w.heap.size, 5, none⟩ = some (.bool dn))
    (first | (exact HK.out _ (bto (bto (Below.refl _ _).drew hb7) (bnew _ _))) | (exact HK.out _ (bto (Below.refl _ _).drew hb7)) | (exact HK.out _ (Below.refl _ _).drew))
    (first
    | (go_at_call 65; refine (clone_any a cap fs _ ((HF.out.later (bnew _ _)).later (Below.refl _ _).drew) hlen).mono ?_; rintro e w7 ⟨v, rfl, hrow, hb7⟩; obtain ⟨a7, cap7, rfl⟩ := row_form hrow))
  go_wp2
  go_ret
  have hb8 := hb7.size
  have hlt := row_block_lt hrow
  refine ⟨w7.heap.size, _, rfl, ⟨?_, heap_alloc_new _ _, row_mono (row_later hrow (bnew _ _)) (by simp), ?_⟩, bto (bto (bnew _ _) (bto (Below.refl _ _).drew hb7)) (bnew _ _)⟩
  · simp at hb8; omega
  · intro g hg; have := hlt g hg; omega

set_option maxHeartbeats 400000 in
theorem sync_any (b o : Nat) (cur : Array Value) (t : TypeId) (d : ByteArray) (w : World) (hb : Blk w b cur t) (h1 : cur[o + 1]? = some (.string d)) (h2 : o + 2 < cur.size) :
    Calls Try.prog 66 #[.pointer (some ⟨b, o, none⟩)] w fun e w' => e = .returned (.tuple #[]) ∧ w' = w.setCell ⟨b, o + 2, none⟩ (.int .i64 d.size) := by
  have c1 := hb.cell (o + 1)
  rw [h1] at c1
  obtain ⟨v2, c2⟩ := hb.there h2
  have f2 := hb.free (o + 2)
  clear hb h1 h2
  go_enter Try.func66, Try.ntmps66
  go_wp2
  go_end0
  exact ⟨rfl, rfl⟩

/-- How many bytes a file has after a crash. -/
def keptN (d : ByteArray) (s keep : Int) : Int := s + min (max keep 0) (d.size - s)

set_option maxRecDepth 100000 in
set_option maxHeartbeats 1000000 in
theorem crash_any (b o : Nat) (cur : Array Value) (t : TypeId) (d : ByteArray) (s keep : Int) (w : World) (hb : Blk w b cur t) (h1 : cur[o + 1]? = some (.string d)) (h2 : cur[o + 2]? = some (.int .i64 s)) (hs0 : 0 ≤ s) (hs1 : s ≤ d.size) (hd : d.size ≤ 1000000000) :
    Calls Try.prog 42 #[.pointer (some ⟨b, o, none⟩), .int .i64 keep] w fun e w' => e = .returned (.tuple #[]) ∧ But b w w' ∧
      Blk w' b ((cur.setIfInBounds (o + 1) (.string (d.extract 0 (keptN d s keep).toNat))).setIfInBounds (o + 2) (.int .i64 (keptN d s keep))) t := by
  have c1 := hb.cell (o + 1)
  rw [h1] at c1
  have c2 := hb.cell (o + 2)
  rw [h2] at c2
  have f1 := hb.free (o + 1)
  have f2 := hb.free (o + 2)
  have HB : Hid (Blk w b cur t) := hb
  have H1 : Hid (cur[o + 1]? = some (.string d)) := h1
  have H2 : Hid (cur[o + 2]? = some (.int .i64 s)) := h2
  clear hb h1 h2
  by_cases hk : keep < 0
  · have E : Hid (keptN d s keep = s) := by show _ = _; unfold keptN; omega
    have hk2 : ¬ ((d.size : Int) - s < 0) := by omega
    go_enter Try.func42, Try.ntmps42
    go_wp2_with fail
    go_quiet (fail)
    go_wp2_with fail
    go_region
    go_wp2_with fail
    have hlt1 : o + 1 < cur.size := (Array.getElem?_eq_some_iff.1 H1.out).1
    have hlt2 : o + 2 < cur.size := (Array.getElem?_eq_some_iff.1 H2.out).1
    refine (sync_any b o _ t (d.extract 0 s.toNat) _ ((HB.out.later (below_drewN (Below.refl _ _) _)).set (o + 1) (.string (d.extract 0 s.toNat))) (by simp [Array.getElem?_setIfInBounds]; omega) (by simp; omega)).mono ?_
    rintro e w' ⟨rfl, hw'⟩
    have HF : Hid (But b w w') := by show But b w w'; rw [hw']; exact ((But.of (below_drewN (Below.refl _ _) _)).setCell _ _).setCell _ _
    have HG := ((HB.out.later (below_drewN (Below.refl _ _) (nq + 1))).set (o + 1) (.string (d.extract 0 s.toNat))).set (o + 2) (.int .i64 ((d.extract 0 s.toNat).size : Nat))
    have HG2 : Hid (Blk w' b ((cur.setIfInBounds (o + 1) (.string (d.extract 0 s.toNat))).setIfInBounds (o + 2) (.int .i64 ((d.extract 0 s.toNat).size : Nat))) t) := by show Blk _ _ _ _; rw [hw']; exact HG
    have E2 : Hid (d.extract 0 (keptN d s keep).toNat = (d.extract 0 s.toNat)) := by
      show _ = _
      rw [E.out]
    have E3 : Hid (keptN d s keep = ((d.extract 0 s.toNat).size : Nat)) := by
      show _ = _
      rw [E.out]
      rw [ByteArray.size_extract]; omega
    clear HG hlt1 hlt2 hw'
    go_wp2
    go_end0
    exact ⟨rfl, HF.out, by rw [E2.out, E3.out]; exact HG2.out⟩
  by_cases hk2 : (d.size : Int) - s < keep
  · have E : Hid (keptN d s keep = d.size) := by show _ = _; unfold keptN; omega
    have hk3 : ¬ (keep < 0) := hk
    have hw : IntKind.i64.wrap (s + ((d.size : Int) - s)) = d.size := by rw [IntKind.wrap_i64]; omega
    go_enter Try.func42, Try.ntmps42
    go_wp2_with fail
    go_quiet (fail)
    go_wp2_with fail
    go_region
    go_wp2_with fail
    have hlt1 : o + 1 < cur.size := (Array.getElem?_eq_some_iff.1 H1.out).1
    have hlt2 : o + 2 < cur.size := (Array.getElem?_eq_some_iff.1 H2.out).1
    refine (sync_any b o _ t (d) _ ((HB.out.later (below_drewN (Below.refl _ _) _)).set (o + 1) (.string (d))) (by simp [Array.getElem?_setIfInBounds]; omega) (by simp; omega)).mono ?_
    rintro e w' ⟨rfl, hw'⟩
    have HF : Hid (But b w w') := by show But b w w'; rw [hw']; exact ((But.of (below_drewN (Below.refl _ _) _)).setCell _ _).setCell _ _
    have HG := ((HB.out.later (below_drewN (Below.refl _ _) (nq + 1))).set (o + 1) (.string (d))).set (o + 2) (.int .i64 ((d).size : Nat))
    have HG2 : Hid (Blk w' b ((cur.setIfInBounds (o + 1) (.string (d))).setIfInBounds (o + 2) (.int .i64 ((d).size : Nat))) t) := by show Blk _ _ _ _; rw [hw']; exact HG
    have E2 : Hid (d.extract 0 (keptN d s keep).toNat = (d)) := by
      show _ = _
      rw [E.out]
      simp
    have E3 : Hid (keptN d s keep = ((d).size : Nat)) := by
      show _ = _
      exact E.out
    clear HG hlt1 hlt2 hw'
    go_wp2
    go_end0
    exact ⟨rfl, HF.out, by rw [E2.out, E3.out]; exact HG2.out⟩
  have E : Hid (keptN d s keep = s + keep) := by show _ = _; unfold keptN; omega
  have hk3 : 0 ≤ keep := by omega
  have hk4 : keep ≤ (d.size : Int) - s := by omega
  have hw : IntKind.i64.wrap (s + keep) = s + keep := by rw [IntKind.wrap_i64]; omega
  go_enter Try.func42, Try.ntmps42
  go_wp2_with fail
  go_quiet (fail)
  go_wp2_with fail
  go_region
  go_wp2_with fail
  have hlt1 : o + 1 < cur.size := (Array.getElem?_eq_some_iff.1 H1.out).1
  have hlt2 : o + 2 < cur.size := (Array.getElem?_eq_some_iff.1 H2.out).1
  refine (sync_any b o _ t (d.extract 0 (s + keep).toNat) _ ((HB.out.later (below_drewN (Below.refl _ _) _)).set (o + 1) (.string (d.extract 0 (s + keep).toNat))) (by simp [Array.getElem?_setIfInBounds]; omega) (by simp; omega)).mono ?_
  rintro e w' ⟨rfl, hw'⟩
  have HF : Hid (But b w w') := by show But b w w'; rw [hw']; exact ((But.of (below_drewN (Below.refl _ _) _)).setCell _ _).setCell _ _
  have HG := ((HB.out.later (below_drewN (Below.refl _ _) (nq + 1))).set (o + 1) (.string (d.extract 0 (s + keep).toNat))).set (o + 2) (.int .i64 ((d.extract 0 (s + keep).toNat).size : Nat))
  have HG2 : Hid (Blk w' b ((cur.setIfInBounds (o + 1) (.string (d.extract 0 (s + keep).toNat))).setIfInBounds (o + 2) (.int .i64 ((d.extract 0 (s + keep).toNat).size : Nat))) t) := by show Blk _ _ _ _; rw [hw']; exact HG
  have E2 : Hid (d.extract 0 (keptN d s keep).toNat = (d.extract 0 (s + keep).toNat)) := by
    show _ = _
    rw [E.out]
  have E3 : Hid (keptN d s keep = ((d.extract 0 (s + keep).toNat).size : Nat)) := by
    show _ = _
    rw [E.out]
    rw [ByteArray.size_extract]; omega
  clear HG hlt1 hlt2 hw'
  go_wp2
  go_end0
  exact ⟨rfl, HF.out, by rw [E2.out, E3.out]; exact HG2.out⟩
end Go.Proofs.Ytijaojnbbfodfac
