import Derived.Test.YtoecnlhnfhongaaDoorProg
import Derived.Test.YtoecnlhnfhongaaDoorJ07Shelf
import Derived.Test.YtoecnlhnfhongaaDoorJ03RqD
import Derived.Test.YtoecnlhnfhongaaDoorJ04AppA
import Derived.Shelf.SlicesQ.IndexFunc
namespace Go.Proofs.YtoecnlhnfhongaaDoor
open Go.RowKit

theorem bemptyR {x : ByteArray} : (x.toList == []) = decide (x.size = 0) := by
  rw [ByteArray.toList_eq]
  cases h : x.data.toList with
  | nil =>
    have h2 : x.size = 0 := by have : x.data.toList.length = 0 := by rw [h]; rfl
                               simpa using this
    simp [h2]
  | cons a l =>
    have h2 : x.size ≠ 0 := by have : x.data.toList.length = l.length + 1 := by rw [h]; rfl
                               simp at this; omega
    simp [h2]
def shV (k : Int) : Value := .agg #[.bool (tnK k), .bool (k == 1), .bool (mtK k), .bool (nmK k), .bool (k == 1 || k == 2 || k == 3 || k == 4)]
theorem isKind_any (k : Int) (w : World) : Calls Tryd.prog 17 #[.int .i64 k] w fun e w' => e = .returned (.bool (decide (1 ≤ k ∧ k ≤ 6))) ∧ Below w.heap.size w w' := by
  by_cases h1 : 1 ≤ k
  · by_cases h2 : k ≤ 6
    · rw [decide_eq_true (show 1 ≤ k ∧ k ≤ 6 from ⟨h1, h2⟩)]
      have h1' : k ≥ 1 := h1
      go_enter Tryd.func17, Tryd.ntmps17
      go_wp2
      go_ret
      exact ⟨rfl, Below.refl _ _⟩
    · rw [decide_eq_false (show ¬ (1 ≤ k ∧ k ≤ 6) from fun h => h2 h.2)]
      have h1' : k ≥ 1 := h1
      go_enter Tryd.func17, Tryd.ntmps17
      go_wp2
      go_ret
      exact ⟨rfl, Below.refl _ _⟩
  · rw [decide_eq_false (show ¬ (1 ≤ k ∧ k ≤ 6) from fun h => h1 h.1)]
    have h1' : ¬ k ≥ 1 := h1
    go_enter Tryd.func17, Tryd.ntmps17
    go_wp2
    go_ret
    exact ⟨rfl, Below.refl _ _⟩

/-- shape.fits at the shape of the request's own kind. -/
def FitR (r : ReqD) (a : Option Addr) (cap : Nat) (w : World) : Prop :=
  Calls Tryd.prog 18 #[shV r.kind, .agg #[.int .i64 r.kind, .string r.tenant, .string r.metric, .int .i64 r.num, .slice a r.smps.length cap]] w fun e w' => ∃ b, e = .returned (.bool b) ∧ (b = true ↔ fitOK r) ∧ Below w.heap.size w w'
theorem FitR.of {r : ReqD} {a : Option Addr} {cap : Nat} {w : World} {b : Bool} (hb : b = true ↔ fitOK r) (h : Calls Tryd.prog 18 #[shV r.kind, .agg #[.int .i64 r.kind, .string r.tenant, .string r.metric, .int .i64 r.num, .slice a r.smps.length cap]] w fun e w' => e = .returned (.bool b) ∧ Below w.heap.size w w') : FitR r a cap w :=
  h.mono fun _ _ ⟨e, q⟩ => ⟨b, e, hb, q⟩

set_option maxRecDepth 100000 in
set_option maxHeartbeats 1000000 in
theorem fits1_any (te me : ByteArray) (nu : Int) (xs : List SmpD) (a : Option Addr) (cap : Nat) (w : World) : FitR ⟨1, te, me, nu, xs⟩ a cap w := by
  by_cases hme : me.size = 0
  · skip
    have hmeb : (me.toList == []) = true := by rw [bemptyR]; exact decide_eq_true hme
    have hmec : me.toList.isEmpty = true := by simpa using hmeb
    by_cases hnu : nu = 0
    · skip
      have hnub : (nu == 0) = true := by simp [hnu]
      refine FitR.of (b := true) ?_ ?_
      · exact ⟨fun _ => ⟨fun h => absurd (show tnK 1 = false from h) (by decide), fun _ => hme, fun _ => hnu, fun h => absurd rfl h⟩, fun _ => rfl⟩
      show Calls _ _ #[.agg #[.bool true, .bool true, .bool false, .bool false, .bool true], .agg #[.int .i64 1, .string te, .string me, .int .i64 nu, .slice a xs.length cap]] w _
      go_enter Tryd.func18, Tryd.ntmps18
      go_wp2
      go_ret
      exact ⟨rfl, bto (bnew _ _) (bnew _ _)⟩
    · skip
      have hnub : (nu == 0) = false := by simp [hnu]
      refine FitR.of (b := false) ?_ ?_
      · exact ⟨fun h => (Bool.false_ne_true h).elim, fun h => absurd (h.2.2.1 rfl) hnu⟩
      show Calls _ _ #[.agg #[.bool true, .bool true, .bool false, .bool false, .bool true], .agg #[.int .i64 1, .string te, .string me, .int .i64 nu, .slice a xs.length cap]] w _
      go_enter Tryd.func18, Tryd.ntmps18
      go_wp2
      go_ret
      exact ⟨rfl, bto (bnew _ _) (bnew _ _)⟩
  · skip
    have hmeb : (me.toList == []) = false := by rw [bemptyR]; exact decide_eq_false hme
    have hmec : me.toList.isEmpty = false := by simpa using hmeb
    refine FitR.of (b := false) ?_ ?_
    · exact ⟨fun h => (Bool.false_ne_true h).elim, fun h => absurd (h.2.1 rfl) hme⟩
    show Calls _ _ #[.agg #[.bool true, .bool true, .bool false, .bool false, .bool true], .agg #[.int .i64 1, .string te, .string me, .int .i64 nu, .slice a xs.length cap]] w _
    go_enter Tryd.func18, Tryd.ntmps18
    go_wp2
    go_ret
    exact ⟨rfl, bto (bnew _ _) (bnew _ _)⟩

set_option maxRecDepth 100000 in
set_option maxHeartbeats 1000000 in
theorem fits2_any (te me : ByteArray) (nu : Int) (xs : List SmpD) (a : Option Addr) (cap : Nat) (w : World) : FitR ⟨2, te, me, nu, xs⟩ a cap w := by
  by_cases hte : te.size = 0
  · skip
    have hteb : (te.toList == []) = true := by rw [bemptyR]; exact decide_eq_true hte
    have htec : te.toList.isEmpty = true := by simpa using hteb
    by_cases hxs : xs.length = 0
    · skip
      have hxsb : ((xs.length : Nat) : Int) = 0 := by omega
      have hxsc : (((xs.length : Nat) : Int) == 0) = true := by first | (rw [hxs]; rfl) | (apply Bool.eq_false_iff.2; intro h; have h2 := eq_of_beq h; omega)
      by_cases hme : me.size = 0
      · skip
        have hmeb : (me.toList == []) = true := by rw [bemptyR]; exact decide_eq_true hme
        have hmec : me.toList.isEmpty = true := by simpa using hmeb
        refine FitR.of (b := true) ?_ ?_
        · exact ⟨fun _ => ⟨fun _ => hte, fun _ => hme, fun h => absurd (show nmK 2 = false from h) (by decide), fun _ => List.length_eq_zero_iff.1 hxs⟩, fun _ => rfl⟩
        show Calls _ _ #[.agg #[.bool false, .bool false, .bool false, .bool true, .bool true], .agg #[.int .i64 2, .string te, .string me, .int .i64 nu, .slice a xs.length cap]] w _
        go_enter Tryd.func18, Tryd.ntmps18
        go_wp2
        go_ret
        exact ⟨rfl, bto (bnew _ _) (bnew _ _)⟩
      · skip
        have hmeb : (me.toList == []) = false := by rw [bemptyR]; exact decide_eq_false hme
        have hmec : me.toList.isEmpty = false := by simpa using hmeb
        refine FitR.of (b := false) ?_ ?_
        · exact ⟨fun h => (Bool.false_ne_true h).elim, fun h => absurd (h.2.1 rfl) hme⟩
        show Calls _ _ #[.agg #[.bool false, .bool false, .bool false, .bool true, .bool true], .agg #[.int .i64 2, .string te, .string me, .int .i64 nu, .slice a xs.length cap]] w _
        go_enter Tryd.func18, Tryd.ntmps18
        go_wp2
        go_ret
        exact ⟨rfl, bto (bnew _ _) (bnew _ _)⟩
    · skip
      have hxsb : ((xs.length : Nat) : Int) ≠ 0 := by omega
      have hxsc : (((xs.length : Nat) : Int) == 0) = false := by first | (rw [hxs]; rfl) | (apply Bool.eq_false_iff.2; intro h; have h2 := eq_of_beq h; omega)
      refine FitR.of (b := false) ?_ ?_
      · exact ⟨fun h => (Bool.false_ne_true h).elim, fun h => absurd (List.length_eq_zero_iff.2 (h.2.2.2 (show ¬ (2 : Int) = 1 by decide))) hxs⟩
      show Calls _ _ #[.agg #[.bool false, .bool false, .bool false, .bool true, .bool true], .agg #[.int .i64 2, .string te, .string me, .int .i64 nu, .slice a xs.length cap]] w _
      go_enter Tryd.func18, Tryd.ntmps18
      go_wp2
      go_ret
      exact ⟨rfl, bto (bnew _ _) (bnew _ _)⟩
  · skip
    have hteb : (te.toList == []) = false := by rw [bemptyR]; exact decide_eq_false hte
    have htec : te.toList.isEmpty = false := by simpa using hteb
    refine FitR.of (b := false) ?_ ?_
    · exact ⟨fun h => (Bool.false_ne_true h).elim, fun h => absurd (h.1 rfl) hte⟩
    show Calls _ _ #[.agg #[.bool false, .bool false, .bool false, .bool true, .bool true], .agg #[.int .i64 2, .string te, .string me, .int .i64 nu, .slice a xs.length cap]] w _
    go_enter Tryd.func18, Tryd.ntmps18
    go_wp2
    go_ret
    exact ⟨rfl, bto (bnew _ _) (bnew _ _)⟩

set_option maxRecDepth 100000 in
set_option maxHeartbeats 1000000 in
theorem fits3_any (te me : ByteArray) (nu : Int) (xs : List SmpD) (a : Option Addr) (cap : Nat) (w : World) : FitR ⟨3, te, me, nu, xs⟩ a cap w := by
  by_cases hxs : xs.length = 0
  · skip
    have hxsb : ((xs.length : Nat) : Int) = 0 := by omega
    have hxsc : (((xs.length : Nat) : Int) == 0) = true := by first | (rw [hxs]; rfl) | (apply Bool.eq_false_iff.2; intro h; have h2 := eq_of_beq h; omega)
    refine FitR.of (b := true) ?_ ?_
    · exact ⟨fun _ => ⟨fun h => absurd (show tnK 3 = false from h) (by decide), fun h => absurd (show mtK 3 = false from h) (by decide), fun h => absurd (show nmK 3 = false from h) (by decide), fun _ => List.length_eq_zero_iff.1 hxs⟩, fun _ => rfl⟩
    show Calls _ _ #[.agg #[.bool true, .bool false, .bool true, .bool true, .bool true], .agg #[.int .i64 3, .string te, .string me, .int .i64 nu, .slice a xs.length cap]] w _
    go_enter Tryd.func18, Tryd.ntmps18
    go_wp2
    go_ret
    exact ⟨rfl, bto (bnew _ _) (bnew _ _)⟩
  · skip
    have hxsb : ((xs.length : Nat) : Int) ≠ 0 := by omega
    have hxsc : (((xs.length : Nat) : Int) == 0) = false := by first | (rw [hxs]; rfl) | (apply Bool.eq_false_iff.2; intro h; have h2 := eq_of_beq h; omega)
    refine FitR.of (b := false) ?_ ?_
    · exact ⟨fun h => (Bool.false_ne_true h).elim, fun h => absurd (List.length_eq_zero_iff.2 (h.2.2.2 (show ¬ (3 : Int) = 1 by decide))) hxs⟩
    show Calls _ _ #[.agg #[.bool true, .bool false, .bool true, .bool true, .bool true], .agg #[.int .i64 3, .string te, .string me, .int .i64 nu, .slice a xs.length cap]] w _
    go_enter Tryd.func18, Tryd.ntmps18
    go_wp2
    go_ret
    exact ⟨rfl, bto (bnew _ _) (bnew _ _)⟩

set_option maxRecDepth 100000 in
set_option maxHeartbeats 1000000 in
theorem fits4_any (te me : ByteArray) (nu : Int) (xs : List SmpD) (a : Option Addr) (cap : Nat) (w : World) : FitR ⟨4, te, me, nu, xs⟩ a cap w := by
  by_cases hte : te.size = 0
  · skip
    have hteb : (te.toList == []) = true := by rw [bemptyR]; exact decide_eq_true hte
    have htec : te.toList.isEmpty = true := by simpa using hteb
    by_cases hxs : xs.length = 0
    · skip
      have hxsb : ((xs.length : Nat) : Int) = 0 := by omega
      have hxsc : (((xs.length : Nat) : Int) == 0) = true := by first | (rw [hxs]; rfl) | (apply Bool.eq_false_iff.2; intro h; have h2 := eq_of_beq h; omega)
      by_cases hme : me.size = 0
      · skip
        have hmeb : (me.toList == []) = true := by rw [bemptyR]; exact decide_eq_true hme
        have hmec : me.toList.isEmpty = true := by simpa using hmeb
        by_cases hnu : nu = 0
        · skip
          have hnub : (nu == 0) = true := by simp [hnu]
          refine FitR.of (b := true) ?_ ?_
          · exact ⟨fun _ => ⟨fun _ => hte, fun _ => hme, fun _ => hnu, fun _ => List.length_eq_zero_iff.1 hxs⟩, fun _ => rfl⟩
          show Calls _ _ #[.agg #[.bool false, .bool false, .bool false, .bool false, .bool true], .agg #[.int .i64 4, .string te, .string me, .int .i64 nu, .slice a xs.length cap]] w _
          go_enter Tryd.func18, Tryd.ntmps18
          go_wp2
          go_ret
          exact ⟨rfl, bto (bnew _ _) (bnew _ _)⟩
        · skip
          have hnub : (nu == 0) = false := by simp [hnu]
          refine FitR.of (b := false) ?_ ?_
          · exact ⟨fun h => (Bool.false_ne_true h).elim, fun h => absurd (h.2.2.1 rfl) hnu⟩
          show Calls _ _ #[.agg #[.bool false, .bool false, .bool false, .bool false, .bool true], .agg #[.int .i64 4, .string te, .string me, .int .i64 nu, .slice a xs.length cap]] w _
          go_enter Tryd.func18, Tryd.ntmps18
          go_wp2
          go_ret
          exact ⟨rfl, bto (bnew _ _) (bnew _ _)⟩
      · skip
        have hmeb : (me.toList == []) = false := by rw [bemptyR]; exact decide_eq_false hme
        have hmec : me.toList.isEmpty = false := by simpa using hmeb
        refine FitR.of (b := false) ?_ ?_
        · exact ⟨fun h => (Bool.false_ne_true h).elim, fun h => absurd (h.2.1 rfl) hme⟩
        show Calls _ _ #[.agg #[.bool false, .bool false, .bool false, .bool false, .bool true], .agg #[.int .i64 4, .string te, .string me, .int .i64 nu, .slice a xs.length cap]] w _
        go_enter Tryd.func18, Tryd.ntmps18
        go_wp2
        go_ret
        exact ⟨rfl, bto (bnew _ _) (bnew _ _)⟩
    · skip
      have hxsb : ((xs.length : Nat) : Int) ≠ 0 := by omega
      have hxsc : (((xs.length : Nat) : Int) == 0) = false := by first | (rw [hxs]; rfl) | (apply Bool.eq_false_iff.2; intro h; have h2 := eq_of_beq h; omega)
      refine FitR.of (b := false) ?_ ?_
      · exact ⟨fun h => (Bool.false_ne_true h).elim, fun h => absurd (List.length_eq_zero_iff.2 (h.2.2.2 (show ¬ (4 : Int) = 1 by decide))) hxs⟩
      show Calls _ _ #[.agg #[.bool false, .bool false, .bool false, .bool false, .bool true], .agg #[.int .i64 4, .string te, .string me, .int .i64 nu, .slice a xs.length cap]] w _
      go_enter Tryd.func18, Tryd.ntmps18
      go_wp2
      go_ret
      exact ⟨rfl, bto (bnew _ _) (bnew _ _)⟩
  · skip
    have hteb : (te.toList == []) = false := by rw [bemptyR]; exact decide_eq_false hte
    have htec : te.toList.isEmpty = false := by simpa using hteb
    refine FitR.of (b := false) ?_ ?_
    · exact ⟨fun h => (Bool.false_ne_true h).elim, fun h => absurd (h.1 rfl) hte⟩
    show Calls _ _ #[.agg #[.bool false, .bool false, .bool false, .bool false, .bool true], .agg #[.int .i64 4, .string te, .string me, .int .i64 nu, .slice a xs.length cap]] w _
    go_enter Tryd.func18, Tryd.ntmps18
    go_wp2
    go_ret
    exact ⟨rfl, bto (bnew _ _) (bnew _ _)⟩

set_option maxRecDepth 100000 in
set_option maxHeartbeats 1000000 in
theorem fits5_any (te me : ByteArray) (nu : Int) (xs : List SmpD) (a : Option Addr) (cap : Nat) (w : World) : FitR ⟨5, te, me, nu, xs⟩ a cap w := by
  by_cases hxs : xs.length = 0
  · skip
    have hxsb : ((xs.length : Nat) : Int) = 0 := by omega
    have hxsc : (((xs.length : Nat) : Int) == 0) = true := by first | (rw [hxs]; rfl) | (apply Bool.eq_false_iff.2; intro h; have h2 := eq_of_beq h; omega)
    by_cases hnu : nu = 0
    · skip
      have hnub : (nu == 0) = true := by simp [hnu]
      refine FitR.of (b := true) ?_ ?_
      · exact ⟨fun _ => ⟨fun h => absurd (show tnK 5 = false from h) (by decide), fun h => absurd (show mtK 5 = false from h) (by decide), fun _ => hnu, fun _ => List.length_eq_zero_iff.1 hxs⟩, fun _ => rfl⟩
      show Calls _ _ #[.agg #[.bool true, .bool false, .bool true, .bool false, .bool false], .agg #[.int .i64 5, .string te, .string me, .int .i64 nu, .slice a xs.length cap]] w _
      go_enter Tryd.func18, Tryd.ntmps18
      go_wp2
      go_ret
      exact ⟨rfl, bto (bnew _ _) (bnew _ _)⟩
    · skip
      have hnub : (nu == 0) = false := by simp [hnu]
      refine FitR.of (b := false) ?_ ?_
      · exact ⟨fun h => (Bool.false_ne_true h).elim, fun h => absurd (h.2.2.1 rfl) hnu⟩
      show Calls _ _ #[.agg #[.bool true, .bool false, .bool true, .bool false, .bool false], .agg #[.int .i64 5, .string te, .string me, .int .i64 nu, .slice a xs.length cap]] w _
      go_enter Tryd.func18, Tryd.ntmps18
      go_wp2
      go_ret
      exact ⟨rfl, bto (bnew _ _) (bnew _ _)⟩
  · skip
    have hxsb : ((xs.length : Nat) : Int) ≠ 0 := by omega
    have hxsc : (((xs.length : Nat) : Int) == 0) = false := by first | (rw [hxs]; rfl) | (apply Bool.eq_false_iff.2; intro h; have h2 := eq_of_beq h; omega)
    refine FitR.of (b := false) ?_ ?_
    · exact ⟨fun h => (Bool.false_ne_true h).elim, fun h => absurd (List.length_eq_zero_iff.2 (h.2.2.2 (show ¬ (5 : Int) = 1 by decide))) hxs⟩
    show Calls _ _ #[.agg #[.bool true, .bool false, .bool true, .bool false, .bool false], .agg #[.int .i64 5, .string te, .string me, .int .i64 nu, .slice a xs.length cap]] w _
    go_enter Tryd.func18, Tryd.ntmps18
    go_wp2
    go_ret
    exact ⟨rfl, bto (bnew _ _) (bnew _ _)⟩

set_option maxRecDepth 100000 in
set_option maxHeartbeats 1000000 in
theorem fits6_any (te me : ByteArray) (nu : Int) (xs : List SmpD) (a : Option Addr) (cap : Nat) (w : World) : FitR ⟨6, te, me, nu, xs⟩ a cap w := by
  by_cases hxs : xs.length = 0
  · skip
    have hxsb : ((xs.length : Nat) : Int) = 0 := by omega
    have hxsc : (((xs.length : Nat) : Int) == 0) = true := by first | (rw [hxs]; rfl) | (apply Bool.eq_false_iff.2; intro h; have h2 := eq_of_beq h; omega)
    by_cases hme : me.size = 0
    · skip
      have hmeb : (me.toList == []) = true := by rw [bemptyR]; exact decide_eq_true hme
      have hmec : me.toList.isEmpty = true := by simpa using hmeb
      by_cases hnu : nu = 0
      · skip
        have hnub : (nu == 0) = true := by simp [hnu]
        refine FitR.of (b := true) ?_ ?_
        · exact ⟨fun _ => ⟨fun h => absurd (show tnK 6 = false from h) (by decide), fun _ => hme, fun _ => hnu, fun _ => List.length_eq_zero_iff.1 hxs⟩, fun _ => rfl⟩
        show Calls _ _ #[.agg #[.bool true, .bool false, .bool false, .bool false, .bool false], .agg #[.int .i64 6, .string te, .string me, .int .i64 nu, .slice a xs.length cap]] w _
        go_enter Tryd.func18, Tryd.ntmps18
        go_wp2
        go_ret
        exact ⟨rfl, bto (bnew _ _) (bnew _ _)⟩
      · skip
        have hnub : (nu == 0) = false := by simp [hnu]
        refine FitR.of (b := false) ?_ ?_
        · exact ⟨fun h => (Bool.false_ne_true h).elim, fun h => absurd (h.2.2.1 rfl) hnu⟩
        show Calls _ _ #[.agg #[.bool true, .bool false, .bool false, .bool false, .bool false], .agg #[.int .i64 6, .string te, .string me, .int .i64 nu, .slice a xs.length cap]] w _
        go_enter Tryd.func18, Tryd.ntmps18
        go_wp2
        go_ret
        exact ⟨rfl, bto (bnew _ _) (bnew _ _)⟩
    · skip
      have hmeb : (me.toList == []) = false := by rw [bemptyR]; exact decide_eq_false hme
      have hmec : me.toList.isEmpty = false := by simpa using hmeb
      refine FitR.of (b := false) ?_ ?_
      · exact ⟨fun h => (Bool.false_ne_true h).elim, fun h => absurd (h.2.1 rfl) hme⟩
      show Calls _ _ #[.agg #[.bool true, .bool false, .bool false, .bool false, .bool false], .agg #[.int .i64 6, .string te, .string me, .int .i64 nu, .slice a xs.length cap]] w _
      go_enter Tryd.func18, Tryd.ntmps18
      go_wp2
      go_ret
      exact ⟨rfl, bto (bnew _ _) (bnew _ _)⟩
  · skip
    have hxsb : ((xs.length : Nat) : Int) ≠ 0 := by omega
    have hxsc : (((xs.length : Nat) : Int) == 0) = false := by first | (rw [hxs]; rfl) | (apply Bool.eq_false_iff.2; intro h; have h2 := eq_of_beq h; omega)
    refine FitR.of (b := false) ?_ ?_
    · exact ⟨fun h => (Bool.false_ne_true h).elim, fun h => absurd (List.length_eq_zero_iff.2 (h.2.2.2 (show ¬ (6 : Int) = 1 by decide))) hxs⟩
    show Calls _ _ #[.agg #[.bool true, .bool false, .bool false, .bool false, .bool false], .agg #[.int .i64 6, .string te, .string me, .int .i64 nu, .slice a xs.length cap]] w _
    go_enter Tryd.func18, Tryd.ntmps18
    go_wp2
    go_ret
    exact ⟨rfl, bto (bnew _ _) (bnew _ _)⟩

theorem fits_any (r : ReqD) (a : Option Addr) (cap : Nat) (w : World) (hk : 1 ≤ r.kind ∧ r.kind ≤ 6) : FitR r a cap w := by
  obtain ⟨k, te, me, nu, xs⟩ := r
  rcases kinds hk with h | h | h | h | h | h
  · simp only at h; subst h; exact fits1_any te me nu xs a cap w
  · simp only at h; subst h; exact fits2_any te me nu xs a cap w
  · simp only at h; subst h; exact fits3_any te me nu xs a cap w
  · simp only at h; subst h; exact fits4_any te me nu xs a cap w
  · simp only at h; subst h; exact fits5_any te me nu xs a cap w
  · simp only at h; subst h; exact fits6_any te me nu xs a cap w

abbrev labI : Inhabited LabD := ⟨⟨ByteArray.empty, ByteArray.empty⟩⟩
def encC (x : LabD) : List Value := [.string x.name, .string x.value]
theorem long_fn (w : World) : PredBelow Tryd.prog 37 #[] (fun x => .agg (encC x).toArray) (fun x : LabD => decide ((x.name.size : Int) > 255)) w := fun W x hb => by
  show Calls Tryd.prog 37 #[.agg #[.string x.name, .string x.value]] W _
  go_enter Tryd.func37, Tryd.ntmps37
  go_wp2
  go_ret
  exact ⟨rfl, hb.alloc hb.size _⟩
theorem index_nil (a : Option Addr) (c : Nat) (fv : Value) (w : World) : Calls Tryd.prog 54 #[.slice a 0 c, fv] w fun e w' => e = .returned (.int .i64 (-1)) ∧ Below w.heap.size w w' := by
  go_enter Tryd.func54, Tryd.ntmps54
  go_wp2
  go_loopw [5, 8] (fun _ i wr => i = .int .i64 0 ∧ Below w.heap.size w wr) (fun _ _ _ => 0)
  case atStart => exact ⟨rfl, Below.refl _ _⟩
  case round =>
    obtain ⟨rfl, hbel⟩ := hrel
    go_wp2
    go_ret
    exact ⟨rfl, hbel⟩
theorem cont_nil (a : Option Addr) (c : Nat) (fv : Value) (w : World) : Calls Tryd.prog 36 #[.slice a 0 c, fv] w fun e w' => e = .returned (.bool false) ∧ Below w.heap.size w w' := by
  have HI : Hid (∀ W, Calls Tryd.prog 54 #[.slice a 0 c, fv] W fun e w' => e = .returned (.int .i64 (-1)) ∧ Below W.heap.size W w') := fun W => index_nil a c fv W
  go_enter Tryd.func36, Tryd.ntmps36
  go_wp2_with fail
  refine (HI.out _).mono ?_
  rintro e w1 ⟨rfl, hb1⟩
  have HB := hid hb1
  clear hb1
  go_wp2
  go_ret
  exact ⟨rfl, HB.out⟩
theorem cont_any (a : Option Addr) (c : Nat) (ls : List LabD) (w : World) (hf : LabsIn w a ls) (hl : ls.length ≤ 2000000) :
    Calls Tryd.prog 36 #[.slice a ls.length c, .func (.func 37) #[] #[]] w fun e w' => e = .returned (.bool (ls.any fun x => decide ((x.name.size : Int) > 255))) ∧ Below w.heap.size w w' := by
  rcases hf with rfl | ⟨b, o, rfl, hlt, hat⟩
  · exact cont_nil a c _ w
  · have eg : ∀ args w, (callFunc 37 args).run Tryd.prog w = .ok (.enter 37 args) w := enters_of Tryd.func37 (by kernel_rfl) rfl
    haveI := labI
    have hcon := AnyQ.slices_ContainsFunc Tryd.contL 2 Tryd.isAgg56 Tryd.sizeOf56 encC (fun _ => rfl) (fun x : LabD => decide ((x.name.size : Int) > 255)) 37 #[] eg b o ls.length c ls w (long_fn w) (Nat.le_refl _) (by omega) hlt (fun j hj i v hi => by
        have h1 := hat j hj
        have e : ls[j]! = ls[j] := getElem!_pos ls j hj
        rw [e] at hi
        match i, hi with
        | 0, hi => simp [encC] at hi; rw [← hi]; exact h1.1
        | 1, hi => simp [encC] at hi; rw [← hi]; exact h1.2
        | i + 2, hi => simp [encC] at hi)
    change Calls Tryd.prog 36 _ _ _ at hcon
    rw [List.take_length] at hcon
    exact hcon

set_option maxRecDepth 100000 in
set_option maxHeartbeats 2000000 in
theorem countable_any (r : ReqD) (a : Option Addr) (cap : Nat) (w : World) (hf : SmpsIn w a r.smps) (hl : r.smps.length ≤ 2000000) (hls : ∀ i (h : i < r.smps.length), r.smps[i].labs.length ≤ 2000000) (ht : r.tenant.size ≤ 1000000000) (B : Bool) (hB : B = true ↔ cntOK r) :
    Calls Tryd.prog 19 #[.agg #[.int .i64 r.kind, .string r.tenant, .string r.metric, .int .i64 r.num, .slice a r.smps.length cap]] w fun e w' => e = .returned (.bool B) ∧ Below w.heap.size w w' := by
  have HNO : Hid (¬ cntOK r → B = false) := fun h => by
    cases B with
    | false => rfl
    | true => exact absurd (hB.1 rfl) h
  have HYES : Hid (cntOK r → B = true) := fun h => hB.2 h
  clear hB
  by_cases c1 : (r.tenant.size : Int) > 255
  · have E : Hid (¬ cntOK r) := fun h => by have := h.1; omega
    clear hf hls
    go_enter Tryd.func19, Tryd.ntmps19
    go_wp2
    go_ret
    exact ⟨ret_bool (HNO.out E.out).symm, bnew _ _⟩
  by_cases c2 : (r.smps.length : Int) > 500
  · have E : Hid (¬ cntOK r) := fun h => by have := h.2.1; omega
    clear hf hls
    go_enter Tryd.func19, Tryd.ntmps19
    go_wp2
    go_ret
    exact ⟨ret_bool (HNO.out E.out).symm, bnew _ _⟩
  have HF : Hid (SmpsIn w a r.smps) := hf
  have HLS := hid hls
  clear hf hls
  go_enter Tryd.func19, Tryd.ntmps19
  go_wp2
  go_loopw [4, 18] (fun _ i wr => ∃ k : Nat, k ≤ r.smps.length ∧ i = .int .i64 k ∧ Hid (∀ j (h : j < r.smps.length), j < k → cntX r.smps[j]) ∧ Below w.heap.size w wr) (fun _ i _ => r.smps.length - (intOf i).toNat)
  case atStart => exact ⟨0, Nat.zero_le _, rfl, fun j _ h => absurd h (by omega), bnew _ _⟩
  case round =>
    obtain ⟨k, hk, rfl, HALL, hbel⟩ := hrel
    by_cases hlt : k < r.smps.length
    · obtain ⟨b, o, a1, q1, rfl, hb, c0, c1', p1⟩ := (HF.out.later hbel).at hlt
      have hll := HLS.out k hlt
      have HC : Hid (∀ W, Below wr.heap.size wr W → Calls Tryd.prog 36 #[.slice a1 r.smps[k].labs.length q1, .func (.func 37) #[] #[]] W fun e w' => e = .returned (.bool (r.smps[k].labs.any fun x => decide ((x.name.size : Int) > 255))) ∧ Below W.heap.size W w') := fun W hW => cont_any a1 q1 _ W (p1.later hW) hll
      have hnb : ¬ b = wr.heap.size := by omega
      by_cases d1 : (r.smps[k].labs.length : Int) > 255
      · have E : Hid (¬ cntOK r) := fun h => by have := (h.2.2 k hlt).1; omega
        clear HC p1
        go_wp2
        go_ret
        exact ⟨ret_bool (HNO.out E.out).symm, bto hbel (bnew _ _)⟩
      cases hany : (r.smps[k].labs.any fun x => decide ((x.name.size : Int) > 255)) with
      | true =>
        have E : Hid (¬ cntOK r) := fun h => by
          obtain ⟨x, hx, hp⟩ := List.any_eq_true.1 hany
          obtain ⟨i, hi, rfl⟩ := List.mem_iff_getElem.1 hx
          have := (h.2.2 k hlt).2 i hi
          have hp' := of_decide_eq_true hp
          omega
        rw [hany] at HC
        clear p1 hany
        go_wp2_with fail
        refine (HC.out _ (bnew _ _)).mono ?_
        rintro e w2 ⟨rfl, hb2⟩
        have B2 : Hid (Below w.heap.size w w2) := bto (bto hbel (bnew _ _)) hb2
        clear hb2
        go_wp2
        go_ret
        exact ⟨ret_bool (HNO.out E.out).symm, B2.out⟩
      | false =>
        have E : Hid (∀ j (h : j < r.smps.length), j < k + 1 → cntX r.smps[j]) := fun j h hj => by
          rcases Nat.lt_or_ge j k with h1 | h1
          · exact HALL.out j h h1
          · obtain rfl : j = k := by omega
            refine ⟨by omega, fun i hi => ?_⟩
            have h2 := List.any_eq_false.1 hany r.smps[j].labs[i] (List.getElem_mem hi)
            simp at h2
            omega
        rw [hany] at HC
        clear p1 hany
        go_wp2_with fail
        refine (HC.out _ (bnew _ _)).mono ?_
        rintro e w2 ⟨rfl, hb2⟩
        have B2 : Hid (Below w.heap.size w w2) := bto (bto hbel (bnew _ _)) hb2
        clear hb2
        go_wp2
        exact ⟨⟨k + 1, by omega, by go_num, E.out, B2.out⟩, by simp [intOf]; omega⟩
    · have E : Hid (cntOK r) := ⟨by omega, by omega, fun i hi => HALL.out i hi (by omega)⟩
      go_wp2
      go_ret
      exact ⟨ret_bool (HYES.out E.out).symm, hbel⟩

set_option maxRecDepth 100000 in
set_option maxHeartbeats 2000000 in
theorem textSize_any (r : ReqD) (a : Option Addr) (cap : Nat) (w : World) (hf : SmpsIn w a r.smps) (hz : reqBulk r ≤ 1048576) :
    Calls Tryd.prog 20 #[.agg #[.int .i64 r.kind, .string r.tenant, .string r.metric, .int .i64 r.num, .slice a r.smps.length cap]] w fun e w' => e = .returned (.int .i64 ((r.tenant.size + r.metric.size + txtS r.smps : Nat) : Int)) ∧ Below w.heap.size w w' := by
  have hrb : reqBulk r = r.tenant.size + r.metric.size + r.smps.length + smpsBulk r.smps := rfl
  have htx := txtS_le r.smps
  have HF : Hid (SmpsIn w a r.smps) := hf
  clear hf
  go_enter Tryd.func20, Tryd.ntmps20
  go_wp2
  go_loopw [3, 5, 7, 18, 25] (fun z _ _ i _ wr => ∃ k : Nat, k ≤ r.smps.length ∧ i = .int .i64 k ∧ z = .int .i64 ((r.tenant.size + r.metric.size + txtS (r.smps.take k) : Nat) : Int) ∧ Below w.heap.size w wr) (fun _ _ _ i _ _ => r.smps.length - (intOf i).toNat)
  case atStart => exact ⟨0, Nat.zero_le _, rfl, by simp [txtS], bnew _ _⟩
  case round =>
    obtain ⟨k, hk, rfl, rfl, hbel⟩ := hrel
    by_cases hlt : k < r.smps.length
    · obtain ⟨b, o, a1, q1, rfl, hb, c0, c1', p1⟩ := (HF.out.later hbel).at hlt
      have hts := txtS_take r.smps k hlt
      have hti := txt_in r.smps k hlt
      have htk : txtS (r.smps.take (k + 1)) ≤ txtS r.smps := by
        have e := txtS_append (r.smps.take (k + 1)) (r.smps.drop (k + 1))
        rw [List.take_append_drop] at e
        omega
      have hbk := smpBulk_at r.smps k hlt
      have hbe : smpBulk r.smps[k] = r.smps[k].labs.length + labBulk r.smps[k].labs := rfl
      have hnb : ¬ b = wr.heap.size := by omega
      have PL : Hid (∀ W, Below wr.heap.size wr W → LabsIn W a1 r.smps[k].labs) := fun W h => p1.later h
      have HTS : Hid (txtS (r.smps.take (k + 1)) = txtS (r.smps.take k) + labBulk r.smps[k].labs) := hts
      clear p1 hts hti
      rename World => wo
      generalize r.smps[k].labs = ls at *
      generalize txtS (r.smps.take k) = T0 at *
      generalize r.smps[k].bits = bi at *
      go_wp2
      go_loopw [3, 7, 25] (fun z _ j wr => ∃ m : Nat, m ≤ ls.length ∧ j = .int .i64 m ∧ z = .int .i64 ((r.tenant.size + r.metric.size + T0 + labBulk (ls.take m) : Nat) : Int) ∧ Below wo.heap.size wo wr) (fun _ _ j _ => ls.length - (intOf j).toNat)
      case atStart => exact ⟨0, Nat.zero_le _, rfl, by simp [labBulk], bnew _ _⟩
      case round =>
        obtain ⟨m, hm, rfl, rfl, hbel2⟩ := hrel
        by_cases hlt2 : m < ls.length
        · obtain ⟨b2, o2, rfl, hb2, e0, e1⟩ := (PL.out _ hbel2).at hlt2
          have hls := labBulk_take_succ ls m hlt2
          have hle := labBulk_take_le ls (m + 1)
          have hn2 : ¬ b2 = wr.heap.size := by omega
          go_wp2
          refine ⟨⟨m + 1, by omega, by go_num, ?_, bto hbel2 (bnew _ _)⟩, by simp [intOf]; omega⟩
          refine congrArg (Value.int .i64) ?_
          have htt := HTS.out
          rw [hls]
          unfold wrap64
          omega
        · have e : ls.take m = ls := List.take_of_length_le (by omega)
          rw [e]
          go_wp2
          refine ⟨⟨k + 1, by omega, by go_num, ?_, bto hbel hbel2⟩, by simp [intOf]; omega⟩
          refine congrArg (Value.int .i64) ?_
          rw [HTS.out]
          omega
    · have e : r.smps.take k = r.smps := List.take_of_length_le (by omega)
      rw [e]
      go_wp2
      go_ret
      exact ⟨rfl, hbel⟩
end Go.Proofs.YtoecnlhnfhongaaDoor

