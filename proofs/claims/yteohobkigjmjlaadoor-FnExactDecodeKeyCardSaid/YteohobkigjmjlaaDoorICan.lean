import Derived.Test.YteohobkigjmjlaaDoorProg
import Derived.Test.YteohobkigjmjlaaDoorICanon
import Derived.Test.YteohobkigjmjlaaDoorKeyL
import Derived.Test.YteohobkigjmjlaaDoorNeqL
import Derived.Shelf.SlicesQ.Equal
namespace Go.Proofs.YteohobkigjmjlaaDoor
open Go.RowKit

theorem canon_zero {ls : List LabD} (h : (canonR ls).2.1 = 0) : 0 < (canonR ls).1.length ∧ 0 < ls.length := by
  obtain ⟨h0, h1⟩ := fault_canon ls
  by_cases hf : (faultR ls).1 = 0
  · obtain ⟨hc, _, hm, _⟩ := h0 hf
    have hk := kept_some hm
    have hl := keptL_len ls
    rw [hc]
    simp only
    rw [insAll_len]
    exact ⟨hk, by omega⟩
  · have hc := h1 hf
    rw [hc] at h
    exact absurd h hf
theorem allEq_same : ∀ (xs ys : List LabD), Lib.allEq eqLabB xs ys = sameLs xs ys
  | [], [] => rfl
  | [], _ :: _ => rfl
  | _ :: _, [] => rfl
  | x :: r, y :: q => by rw [Lib.allEq, sameLs, allEq_same r q]
theorem labs_cells [Inhabited LabD] {w : World} {b o : Nat} {ls : List LabD} (h : LabsAt w b o ls) : ∀ j, j < ls.length → ∀ i v, (encL ls[j]!)[i]? = some v → w.cell? ⟨b, o + j * 2 + i, none⟩ = some v := by
  intro j hj i v hi
  have h1 := h j hj
  have e : ls[j]! = ls[j] := getElem!_pos ls j hj
  rw [e] at hi
  match i, hi with
  | 0, hi => simp [encL] at hi; rw [← hi]; exact h1.1
  | 1, hi => simp [encL] at hi; rw [← hi]; exact h1.2
  | i + 2, hi => simp [encL] at hi
theorem LabsIn.some {w : World} {a : Option Addr} {ls : List LabD} (h : LabsIn w a ls) (h0 : 0 < ls.length) : ∃ b o, a = some ⟨b, o, none⟩ ∧ b < w.heap.size ∧ LabsAt w b o ls := by
  rcases h with rfl | h
  · exact absurd h0 (by simp)
  · exact h
theorem drewN_below (w : World) (q : Nat) : Below w.heap.size w (w.drewN q) := ⟨rfl, rfl, rfl, Nat.le_refl _, fun _ _ => rfl⟩
theorem equal_any (a a' : Option Addr) (cap cap' : Nat) (xs ys : List LabD) (w : World) (hx : LabsIn w a xs) (hy : LabsIn w a' ys) (hx0 : 0 < xs.length) (hy0 : 0 < ys.length) (hxl : xs.length ≤ 2000000) (hyl : ys.length ≤ 2000000) :
    Calls Tryd.prog 54 #[.slice a xs.length cap, .slice a' ys.length cap'] w fun e w' => e = .returned (.bool (sameLs xs ys)) ∧ Below w.heap.size w w' := by
  obtain ⟨b1, o1, rfl, _, h1⟩ := hx.some hx0
  obtain ⟨b2, o2, rfl, _, h2⟩ := hy.some hy0
  haveI := labI
  have hcon := AnyQ.slices_Equal Tryd.eqlL 2 Tryd.isAgg40 Tryd.sizeOf40 encL (fun _ => rfl) eqLabB neqL b1 o1 xs.length cap b2 o2 ys.length cap' xs ys w (Nat.le_refl _) (Nat.le_refl _) (by omega) (by omega) (labs_cells h1) (labs_cells h2)
  change Calls Tryd.prog 54 _ _ _ at hcon
  refine hcon.mono ?_
  rintro e w' ⟨rfl, q, rfl⟩
  rw [List.take_length, List.take_length, allEq_same]
  exact ⟨rfl, drewN_below w q⟩

set_option maxRecDepth 100000 in
set_option maxHeartbeats 1000000 in
theorem isCan_any (a : Option Addr) (cap : Nat) (ls : List LabD) (w : World) (hf : LabsIn w a ls) (hB : BigL ls) (hlen : ls.length ≤ 2000000) (hcap : ls.length ≤ cap) (hT : UTab w) :
    Calls Tryd.prog 38 #[.slice a ls.length cap] w fun e w' => e = .returned (.bool (canB ls)) ∧ Below w.heap.size w w' := by
  have HC : Hid (Calls Tryd.prog 11 #[.slice a ls.length cap] w fun e w' => ∃ a' cap', e = .returned (.tuple #[.slice a' (canonR ls).1.length cap', .int .i64 ((canonR ls).2.1 : Nat), .int .i64 ((canonR ls).2.2 : Nat)]) ∧ (canonR ls).1.length ≤ cap' ∧ LabsOwn w' w.heap.size a' (canonR ls).1 ∧ Below w.heap.size w w') := implCanon_any a cap ls w hf hB hlen hcap hT
  have HF : Hid (LabsIn w a ls) := hf
  have hcl := canon_len0 ls
  clear hf hB hT
  by_cases h0 : (canonR ls).2.1 = 0
  · obtain ⟨hp1, hp2⟩ := canon_zero h0
    have HEQ : Hid (∀ W af cf, LabsIn W af (canonR ls).1 → LabsIn W a ls → Calls Tryd.prog 54 #[.slice af (canonR ls).1.length cf, .slice a ls.length cap] W fun e w' => e = .returned (.bool (sameLs (canonR ls).1 ls)) ∧ Below W.heap.size W w') := fun W af cf h1 h2 => equal_any af a cf cap _ ls W h1 h2 hp1 hp2 (by omega) hlen
    have E : Hid (canB ls = sameLs (canonR ls).1 ls) := by show _ = _; unfold canB; rw [h0]; rfl
    have h0b : (((canonR ls).2.1 : Int) == 0) = true := by simp; omega
    rw [E.out]
    clear h0 E
    generalize sameLs (canonR ls).1 ls = SB at *
    generalize (canonR ls).1 = C at *
    generalize (canonR ls).2.1 = c1 at *
    generalize (canonR ls).2.2 = c2 at *
    go_enter Tryd.func38, Tryd.ntmps38
    go_wp2_with fail
    refine HC.out.mono ?_
    rintro e w1 ⟨af, cf, rfl, _, hof, hb1⟩
    have B1 : Hid (Below w.heap.size w w1) := hb1
    have O1 : Hid (LabsIn w1 af C ∧ LabsIn w1 a ls) := ⟨hof.labs, HF.out.later hb1⟩
    clear hof hb1 HC
    go_wp2_with fail
    refine (HEQ.out _ _ _ O1.out.1 O1.out.2).mono ?_
    rintro e w2 ⟨rfl, hb2⟩
    have B2 : Hid (Below w.heap.size w w2) := bto B1.out hb2
    clear hb2
    go_wp2
    go_ret
    exact ⟨rfl, B2.out⟩
  · have E : Hid (canB ls = false) := by show _ = _; unfold canB; rw [decide_eq_false h0]; rfl
    have h0b : (((canonR ls).2.1 : Int) == 0) = false := by simp; omega
    rw [E.out]
    clear h0 E
    generalize (canonR ls).1 = C at *
    generalize (canonR ls).2.1 = c1 at *
    generalize (canonR ls).2.2 = c2 at *
    go_enter Tryd.func38, Tryd.ntmps38
    go_wp2_with fail
    refine HC.out.mono ?_
    rintro e w1 ⟨af, cf, rfl, _, hof, hb1⟩
    have B1 : Hid (Below w.heap.size w w1) := hb1
    clear hof hb1 HC
    go_wp2
    go_ret
    exact ⟨rfl, B1.out⟩
end Go.Proofs.YteohobkigjmjlaaDoor
