import Derived.Test.YtflfopienjjlbaaGreatDoorProg
import Derived.Test.YtflfopienjjlbaaGreatDoorJ01Drive
namespace Go.Proofs.YtflfopienjjlbaaGreatDoor
open Go.RowKit

set_option maxHeartbeats 400000 in
theorem restart_any (D : Nat) (t : TypeId) (v0 v1 v2 v3 v4 v5 : Value) (w : World) (hb : Blk w D #[v0, v1, v2, v3, v4, v5] t) :
    Calls Tryz.prog 53 #[.pointer (some ⟨D, 0, none⟩)] w fun e w' => e = .returned (.tuple #[]) ∧ But D w w' ∧ Blk w' D #[v0, .int .i64 0, .int .i64 0, .bool false, v4, v5] t := by
  have c1 := hb.cell 1
  have c2 := hb.cell 2
  have c3 := hb.cell 3
  simp at c1 c2 c3
  have f1 := hb.free 1
  have f2 := hb.free 2
  have f3 := hb.free 3
  have HB : Hid (Blk w D #[v0, v1, v2, v3, v4, v5] t) := hb
  clear hb
  go_enter Tryz.func53, Tryz.ntmps53
  go_wp2
  go_end0
  refine ⟨rfl, (((But.refl _ _).setCell _ _).setCell _ _).setCell _ _, ?_⟩
  have := ((HB.out.set 1 (.int .i64 0)).set 2 (.int .i64 0)).set 3 (.bool false)
  simpa using this

/-- How many bytes a file has after a crash. -/
def keptN (d : ByteArray) (s keep : Int) : Int := s + min (max keep 0) (d.size - s)

set_option maxRecDepth 100000 in
set_option maxHeartbeats 1000000 in
theorem crash_any (b o : Nat) (cur : Array Value) (t : TypeId) (d : ByteArray) (s keep : Int) (w : World) (hb : Blk w b cur t) (h1 : cur[o + 1]? = some (.string d)) (h2 : cur[o + 2]? = some (.int .i64 s)) (hs0 : 0 ≤ s) (hs1 : s ≤ d.size) (hd : d.size ≤ 1000000000) :
    Calls Tryz.prog 52 #[.pointer (some ⟨b, o, none⟩), .int .i64 keep] w fun e w' => e = .returned (.tuple #[]) ∧ But b w w' ∧
      Blk w' b ((cur.setIfInBounds (o + 1) (.string (d.extract 0 (keptN d s keep).toNat))).setIfInBounds (o + 2) (.int .i64 (keptN d s keep))) t := by
  have c1 := hb.cell (o + 1)
  rw [h1] at c1
  have c2 := hb.cell (o + 2)
  rw [h2] at c2
  have f1 := hb.free (o + 1)
  have f2 := hb.free (o + 2)
  have HB : Hid (Blk w b cur t) := hb
  have H1 : Hid (cur[o + 1]? = some (.string d)) := h1
  have H2 : Hid (cur[o + 2]? = some (.int .i64 s)) := h2
  clear hb h1 h2
  by_cases hk : keep < 0
  · have E : Hid (keptN d s keep = s) := by show _ = _; unfold keptN; omega
    have hk2 : ¬ ((d.size : Int) - s < 0) := by omega
    go_enter Tryz.func52, Tryz.ntmps52
    go_wp2_with fail
    go_quiet (fail)
    go_wp2_with fail
    go_region
    go_wp2_with fail
    have hlt1 : o + 1 < cur.size := (Array.getElem?_eq_some_iff.1 H1.out).1
    have hlt2 : o + 2 < cur.size := (Array.getElem?_eq_some_iff.1 H2.out).1
    refine (sync_any b o _ t (d.extract 0 s.toNat) _ ((HB.out.later (below_drewN (Below.refl _ _) _)).set (o + 1) (.string (d.extract 0 s.toNat))) (by simp [Array.getElem?_setIfInBounds]; omega) (by simp; omega)).mono ?_
    rintro e w' ⟨rfl, hw'⟩
    have HF : Hid (But b w w') := by show But b w w'; rw [hw']; exact ((But.of (below_drewN (Below.refl _ _) _)).setCell _ _).setCell _ _
    have HG := ((HB.out.later (below_drewN (Below.refl _ _) (nq + 1))).set (o + 1) (.string (d.extract 0 s.toNat))).set (o + 2) (.int .i64 ((d.extract 0 s.toNat).size : Nat))
    have HG2 : Hid (Blk w' b ((cur.setIfInBounds (o + 1) (.string (d.extract 0 s.toNat))).setIfInBounds (o + 2) (.int .i64 ((d.extract 0 s.toNat).size : Nat))) t) := by show Blk _ _ _ _; rw [hw']; exact HG
    have E2 : Hid (d.extract 0 (keptN d s keep).toNat = (d.extract 0 s.toNat)) := by
      show _ = _
      rw [E.out]
    have E3 : Hid (keptN d s keep = ((d.extract 0 s.toNat).size : Nat)) := by
      show _ = _
      rw [E.out]
      rw [ByteArray.size_extract]; omega
    clear HG hlt1 hlt2 hw'
    go_wp2
    go_end0
    exact ⟨rfl, HF.out, by rw [E2.out, E3.out]; exact HG2.out⟩
  by_cases hk2 : (d.size : Int) - s < keep
  · have E : Hid (keptN d s keep = d.size) := by show _ = _; unfold keptN; omega
    have hk3 : ¬ (keep < 0) := hk
    have hw : IntKind.i64.wrap (s + ((d.size : Int) - s)) = d.size := by rw [IntKind.wrap_i64]; omega
    go_enter Tryz.func52, Tryz.ntmps52
    go_wp2_with fail
    go_quiet (fail)
    go_wp2_with fail
    go_region
    go_wp2_with fail
    have hlt1 : o + 1 < cur.size := (Array.getElem?_eq_some_iff.1 H1.out).1
    have hlt2 : o + 2 < cur.size := (Array.getElem?_eq_some_iff.1 H2.out).1
    refine (sync_any b o _ t (d) _ ((HB.out.later (below_drewN (Below.refl _ _) _)).set (o + 1) (.string (d))) (by simp [Array.getElem?_setIfInBounds]; omega) (by simp; omega)).mono ?_
    rintro e w' ⟨rfl, hw'⟩
    have HF : Hid (But b w w') := by show But b w w'; rw [hw']; exact ((But.of (below_drewN (Below.refl _ _) _)).setCell _ _).setCell _ _
    have HG := ((HB.out.later (below_drewN (Below.refl _ _) (nq + 1))).set (o + 1) (.string (d))).set (o + 2) (.int .i64 ((d).size : Nat))
    have HG2 : Hid (Blk w' b ((cur.setIfInBounds (o + 1) (.string (d))).setIfInBounds (o + 2) (.int .i64 ((d).size : Nat))) t) := by show Blk _ _ _ _; rw [hw']; exact HG
    have E2 : Hid (d.extract 0 (keptN d s keep).toNat = (d)) := by
      show _ = _
      rw [E.out]
      simp
    have E3 : Hid (keptN d s keep = ((d).size : Nat)) := by
      show _ = _
      exact E.out
    clear HG hlt1 hlt2 hw'
    go_wp2
    go_end0
    exact ⟨rfl, HF.out, by rw [E2.out, E3.out]; exact HG2.out⟩
  have E : Hid (keptN d s keep = s + keep) := by show _ = _; unfold keptN; omega
  have hk3 : 0 ≤ keep := by omega
  have hk4 : keep ≤ (d.size : Int) - s := by omega
  have hw : IntKind.i64.wrap (s + keep) = s + keep := by rw [IntKind.wrap_i64]; omega
  go_enter Tryz.func52, Tryz.ntmps52
  go_wp2_with fail
  go_quiet (fail)
  go_wp2_with fail
  go_region
  go_wp2_with fail
  have hlt1 : o + 1 < cur.size := (Array.getElem?_eq_some_iff.1 H1.out).1
  have hlt2 : o + 2 < cur.size := (Array.getElem?_eq_some_iff.1 H2.out).1
  refine (sync_any b o _ t (d.extract 0 (s + keep).toNat) _ ((HB.out.later (below_drewN (Below.refl _ _) _)).set (o + 1) (.string (d.extract 0 (s + keep).toNat))) (by simp [Array.getElem?_setIfInBounds]; omega) (by simp; omega)).mono ?_
  rintro e w' ⟨rfl, hw'⟩
  have HF : Hid (But b w w') := by show But b w w'; rw [hw']; exact ((But.of (below_drewN (Below.refl _ _) _)).setCell _ _).setCell _ _
  have HG := ((HB.out.later (below_drewN (Below.refl _ _) (nq + 1))).set (o + 1) (.string (d.extract 0 (s + keep).toNat))).set (o + 2) (.int .i64 ((d.extract 0 (s + keep).toNat).size : Nat))
  have HG2 : Hid (Blk w' b ((cur.setIfInBounds (o + 1) (.string (d.extract 0 (s + keep).toNat))).setIfInBounds (o + 2) (.int .i64 ((d.extract 0 (s + keep).toNat).size : Nat))) t) := by show Blk _ _ _ _; rw [hw']; exact HG
  have E2 : Hid (d.extract 0 (keptN d s keep).toNat = (d.extract 0 (s + keep).toNat)) := by
    show _ = _
    rw [E.out]
  have E3 : Hid (keptN d s keep = ((d.extract 0 (s + keep).toNat).size : Nat)) := by
    show _ = _
    rw [E.out]
    rw [ByteArray.size_extract]; omega
  clear HG hlt1 hlt2 hw'
  go_wp2
  go_end0
  exact ⟨rfl, HF.out, by rw [E2.out, E3.out]; exact HG2.out⟩
end Go.Proofs.YtflfopienjjlbaaGreatDoor

