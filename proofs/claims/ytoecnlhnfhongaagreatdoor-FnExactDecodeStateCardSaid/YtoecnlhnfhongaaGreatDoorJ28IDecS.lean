import Derived.Test.YtoecnlhnfhongaaGreatDoorProg
import Derived.Test.YtoecnlhnfhongaaGreatDoorJ07IChkD
import Derived.Test.YtoecnlhnfhongaaGreatDoorJ10HpM
import Derived.Test.YtoecnlhnfhongaaGreatDoorJ25Jn
import Derived.Test.YtoecnlhnfhongaaGreatDoorJ27IEst
import Derived.Tactics2
import Derived.Defers
import Derived.Recover
import Derived.Laws.Pointers
namespace Go.Proofs.YtoecnlhnfhongaaGreatDoor
open Go.RowKit

set_option maxRecDepth 100000 in
theorem catchS_panic (R1 R2 R3 : Nat) (c0 d0 d1 e0 : Value) (u : TypeId) (pv : Value) (older : List PanicEntry) (w : World) (h0 : w.cell? ⟨R1, 0, none⟩ = some c0) (h1 : w.cell? ⟨R2, 0, none⟩ = some d0) (h2 : w.cell? ⟨R2, 1, none⟩ = some d1) (h3 : w.cell? ⟨R3, 0, none⟩ = some e0) (z0 : w.frozen? ⟨R1, 0, none⟩ = false) (z1 : w.frozen? ⟨R2, 0, none⟩ = false) (z2 : w.frozen? ⟨R2, 1, none⟩ = false) (z3 : w.frozen? ⟨R3, 0, none⟩ = false) (hne : ¬ R2 = R1) (hne2 : ¬ R3 = R1) (hne3 : ¬ R3 = R2) :
    CallsD Tryz.prog 14 #[.pointer (some ⟨R1, 0, none⟩), .pointer (some ⟨R2, 0, none⟩), .pointer (some ⟨R3, 0, none⟩)] (.panicking ({ v := .iface u pv, recovered := false } :: older)) w fun e u' w' =>
      e = .returned (.tuple #[]) ∧ u' = .panicking ({ v := .iface u pv, recovered := true } :: older) ∧ w' = (((w.setCell ⟨R1, 0, none⟩ (.int .i64 0)).setCell ⟨R2, 0, none⟩ (.int .i64 0)).setCell ⟨R2, 1, none⟩ (.slice none 0 0)).setCell ⟨R3, 0, none⟩ (.bool false) := by
  refine callsD_of_wpS Tryz.func14 rfl fun c₀ cs hu => ?_
  apply wpS_seq
  apply wpS_region
  simp [wpOpsS, go_sem, recoverD, hu, Tryz.ntmps14, Exit.thenS]
  refine wpS_cond (t := true) (by simp [Act.eval, Array.replicate]) ?_
  simp only [if_true]
  apply wpS_region
  simp [wpOpsS, go_sem, h0, h1, h2, h3, z0, z1, z2, z3, bodyPostS, results, Tryz.results14]
set_option maxRecDepth 100000 in
theorem catchS_idle (p q r : Value) (w : World) :
    CallsD Tryz.prog 14 #[p, q, r] .returning w fun e u' w' => e = .returned (.tuple #[]) ∧ u' = .returning ∧ w' = w := by
  refine callsD_of_wpS Tryz.func14 rfl fun c₀ cs hu => ?_
  apply wpS_seq
  apply wpS_region
  simp [wpOpsS, go_sem, recoverD, hu, Tryz.ntmps14, Exit.thenS]
  refine wpS_cond (t := false) (by simp [Act.eval, Array.replicate]) ?_
  simp only [Bool.false_eq_true, if_false]
  refine wpS_of_wp (wp_skip ?_)
  cases c₀
  simp_all [bodyPostS, results, Tryz.results14]
-- the walk
/-- The four boxes of DecodeState. -/
def BxS (w' : World) (P : Nat) (c : CfgD) (l n : Int) (v : Value) : Prop :=
  Blk w' P #[.int .i64 c.w, .int .i64 c.tl, .int .i64 c.ml, .int .i64 c.sh, .int .i64 c.ha, .int .i64 c.sg] 29 ∧ Blk w' (P + 1) #[.int .i64 l] 3 ∧ Blk w' (P + 1 + 1) #[.int .i64 n, v] 26 ∧ Blk w' (P + 1 + 1 + 1) #[.bool false] 4
theorem BxS.but {w w' : World} {P g : Nat} {c : CfgD} {l n : Int} {v : Value} (h : BxS w P c l n v) (hb : But g w w') (hg : P + 1 + 1 + 1 < g) : BxS w' P c l n v :=
  ⟨h.1.but hb (by omega), h.2.1.but hb (by omega), h.2.2.1.but hb (by omega), h.2.2.2.but hb (by omega)⟩
theorem BxS.later {w w' : World} {P : Nat} {c : CfgD} {l n : Int} {v : Value} (h : BxS w P c l n v) (hb : Below w.heap.size w w') : BxS w' P c l n v := ⟨h.1.later hb, h.2.1.later hb, h.2.2.1.later hb, h.2.2.2.later hb⟩
theorem BxS.new (w : World) (c : CfgD) (s : ByteArray) : BxS (((((w.alloc (.cells #[.int .i64 c.w, .int .i64 c.tl, .int .i64 c.ml, .int .i64 c.sh, .int .i64 c.ha, .int .i64 c.sg] 29)).alloc (.cells #[.int .i64 0] 3)).alloc (.cells #[.int .i64 0, .slice none 0 0] 26)).alloc (.cells #[.bool false] 4)).alloc (.cells #[.string s, .bool false] 51)) w.heap.size c 0 0 (.slice none 0 0) ∧ RT (((((w.alloc (.cells #[.int .i64 c.w, .int .i64 c.tl, .int .i64 c.ml, .int .i64 c.sh, .int .i64 c.ha, .int .i64 c.sg] 29)).alloc (.cells #[.int .i64 0] 3)).alloc (.cells #[.int .i64 0, .slice none 0 0] 26)).alloc (.cells #[.bool false] 4)).alloc (.cells #[.string s, .bool false] 51)) (w.heap.size + 1 + 1 + 1 + 1) ⟨s, false⟩ ∧ Below w.heap.size w (((((w.alloc (.cells #[.int .i64 c.w, .int .i64 c.tl, .int .i64 c.ml, .int .i64 c.sh, .int .i64 c.ha, .int .i64 c.sg] 29)).alloc (.cells #[.int .i64 0] 3)).alloc (.cells #[.int .i64 0, .slice none 0 0] 26)).alloc (.cells #[.bool false] 4)).alloc (.cells #[.string s, .bool false] 51)) := by
  refine ⟨⟨?_, ?_, ?_, ?_⟩, ⟨51, ?_⟩, ?_⟩
  · exact ((((Blk.new _ _ _).alloc _).alloc _).alloc _).alloc _
  · have := (((Blk.new (w.alloc (.cells #[.int .i64 c.w, .int .i64 c.tl, .int .i64 c.ml, .int .i64 c.sh, .int .i64 c.ha, .int .i64 c.sg] 29)) #[.int .i64 0] 3).alloc (.cells #[.int .i64 0, .slice none 0 0] 26)).alloc (.cells #[.bool false] 4)).alloc (.cells #[.string s, .bool false] 51); simpa using this
  · have := ((Blk.new ((w.alloc (.cells #[.int .i64 c.w, .int .i64 c.tl, .int .i64 c.ml, .int .i64 c.sh, .int .i64 c.ha, .int .i64 c.sg] 29)).alloc (.cells #[.int .i64 0] 3)) #[.int .i64 0, .slice none 0 0] 26).alloc (.cells #[.bool false] 4)).alloc (.cells #[.string s, .bool false] 51); simpa using this
  · have := (Blk.new (((w.alloc (.cells #[.int .i64 c.w, .int .i64 c.tl, .int .i64 c.ml, .int .i64 c.sh, .int .i64 c.ha, .int .i64 c.sg] 29)).alloc (.cells #[.int .i64 0] 3)).alloc (.cells #[.int .i64 0, .slice none 0 0] 26)) #[.bool false] 4).alloc (.cells #[.string s, .bool false] 51); simpa using this
  · have := Blk.new ((((w.alloc (.cells #[.int .i64 c.w, .int .i64 c.tl, .int .i64 c.ml, .int .i64 c.sh, .int .i64 c.ha, .int .i64 c.sg] 29)).alloc (.cells #[.int .i64 0] 3)).alloc (.cells #[.int .i64 0, .slice none 0 0] 26)).alloc (.cells #[.bool false] 4)) #[.string s, .bool false] 51; simpa using this
  · exact bto (bto (bto (bto (bnew _ _) (bnew _ _)) (bnew _ _)) (bnew _ _)) (bnew _ _)
theorem BxS.set {w : World} {P : Nat} {c : CfgD} {l n l' n' : Int} {v v' : Value} (h : BxS w P c l n v) : BxS (((w.setCell ⟨P + 1, 0, none⟩ (.int .i64 l')).setCell ⟨P + 1 + 1, 0, none⟩ (.int .i64 n')).setCell ⟨P + 1 + 1, 1, none⟩ v') P c l' n' v' := by
  refine ⟨?_, ?_, ?_, ?_⟩
  · exact ((h.1.but ((But.refl (P + 1) w).setCell 0 _) (by omega)).but ((But.refl (P + 1 + 1) _).setCell 0 _) (by omega)).but ((But.refl (P + 1 + 1) _).setCell 1 _) (by omega)
  · have := h.2.1.set 0 (.int .i64 l')
    exact (Blk.but (by simpa using this) ((But.refl (P + 1 + 1) _).setCell 0 _) (by omega)).but ((But.refl (P + 1 + 1) _).setCell 1 _) (by omega)
  · have := ((h.2.2.1.but ((But.refl (P + 1) w).setCell 0 (.int .i64 l')) (by omega)).set 0 (.int .i64 n')).set 1 v'; simpa using this
  · exact ((h.2.2.2.but ((But.refl (P + 1) w).setCell 0 _) (by omega)).but ((But.refl (P + 1 + 1) _).setCell 0 _) (by omega)).but ((But.refl (P + 1 + 1) _).setCell 1 _) (by omega)
theorem tens_turn {w w' : World} {S : Nat → Prop} {B : Nat} {a : Option Addr} {ts : List TenD} (h : TensOwn w B a ts) (ht : Turn S w w') (hS : ∀ g, S g → g < B) : TensOwn w' B a ts := by
  rcases h with h | ⟨g, o, cur, t, T, rfl, hB, hg, hT, h⟩
  · exact Or.inl h
  · have hk : ∀ g, g < w.heap.size → B ≤ g → w'.heap[g]? = w.heap[g]? := fun g hg hb => ht.block g hg (fun e => by have := hS g e; omega)
    have hlt := lt_of_block hg
    exact Or.inr ⟨g, o, cur, t, T, rfl, hB, (hk g hlt hB).trans hg, hT, fun i hi => (h i hi).keep (fun j _ => World.cell?_of_block (hk g hlt hB)) fun g' hg' hb' _ => ⟨hk g' hg' hb', rfl⟩⟩
/-- What impl.DecodeState hands back. -/
def DecSOut (c : CfgD) (s : ByteArray) (w : World) (e : Ending) (w' : World) : Prop :=
  ∃ av cap, e = .returned (.tuple #[.int .i64 (decS c s).1, .agg #[.int .i64 (decS c s).2.1, .slice av (decS c s).2.2.1.length cap], .bool (decS c s).2.2.2]) ∧ TensOwn w' w.heap.size av (decS c s).2.2.1 ∧ Below w.heap.size w w'

set_option maxRecDepth 100000 in
set_option maxHeartbeats 4000000 in
theorem implDecS_any (c : CfgD) (s : ByteArray) (w : World) (hs : s.size ≤ 1048576) (hU : UTab w) : Calls Tryz.prog 6 #[cfgV c, .string s] w fun e w' => DecSOut c s w e w' := by
  have hmf : ∀ (fn : Fn) (first cap : Array Value) (w : World), (Instr.makeFunc fn first cap).run Tryz.prog w = .ok (.func fn first cap) w := fun _ _ _ _ => rfl
  have HBD : Hid (∀ W B, RT W B ⟨s, false⟩ → Calls Tryz.prog 15 #[.pointer (some ⟨B, 0, none⟩)] W fun e w' => ChkOut B s W e w') := fun W B h => checkD_any B s W h (by omega)
  have HNEW := hid (BxS.new w c s)
  have HCF : Hid (cfgV c = .agg #[.int .i64 c.w, .int .i64 c.tl, .int .i64 c.ml, .int .i64 c.sh, .int .i64 c.ha, .int .i64 c.sg]) := rfl
  rw [HCF.out]
  unfold ChkOut at HBD
  cases hsh : (staR s).2.short with
  | true =>
    have E : Hid (decS c s = (0, 0, [], false)) := decS_short hsh
    unfold DecSOut
    rw [E.out]
    go_enter_defers Tryz.func6, Tryz.ntmps6
    go_wp2_with fail
    refine (HBD.out _ (w.heap.size + 1 + 1 + 1 + 1) HNEW.out.2.1).mono ?_
    rintro e w1 (⟨h, _⟩ | ⟨_, rfl, hb1⟩)
    · rw [hsh] at h; cases h
    have X : BxS w1 w.heap.size c 0 0 (.slice none 0 0) := HNEW.out.1.but hb1 (by omega)
    have B1 : Below w.heap.size w w1 := HNEW.out.2.2.trans (hb1.below (by omega) (by simp; omega))
    have y0 : w1.cell? ⟨w.heap.size + 1, 0, none⟩ = some (.int .i64 0) := X.2.1.cell 0
    have y1 : w1.cell? ⟨w.heap.size + 1 + 1, 0, none⟩ = some (.int .i64 0) := X.2.2.1.cell 0
    have y2 : w1.cell? ⟨w.heap.size + 1 + 1, 1, none⟩ = some (.slice none 0 0) := X.2.2.1.cell 1
    have y3 : w1.cell? ⟨w.heap.size + 1 + 1 + 1, 0, none⟩ = some (.bool false) := X.2.2.2.cell 0
    refine leaves_cons (f := 14) (args := #[.pointer (some ⟨w.heap.size + 1, 0, none⟩), .pointer (some ⟨w.heap.size + 1 + 1, 0, none⟩), .pointer (some ⟨w.heap.size + 1 + 1 + 1, 0, none⟩)]) (by simp) (by simp [go_sem]) ?_
    refine (catchS_panic (w.heap.size + 1) (w.heap.size + 1 + 1) (w.heap.size + 1 + 1 + 1) _ _ _ _ _ _ [] _ y0 y1 y2 y3 (X.2.1.free 0) (X.2.2.1.free 0) (X.2.2.1.free 1) (X.2.2.2.free 0) (by omega) (by omega) (by omega)).mono ?_
    rintro e u' w'' ⟨rfl, rfl, rfl⟩
    simp [Leaves, settle, results, Tryz.results6, go_sem, y0, y1, y2, y3]
    exact ⟨Or.inl rfl, (((B1.setCell (by simp <;> omega) _).setCell (by simp <;> omega) _).setCell (by simp <;> omega) _).setCell (by simp <;> omega) _⟩
  | false =>
    have hz := sta_eat hsh
    have hcnt := count_in (staR s).1
    have hpin := parts_in (staR s).1
    have HEN : Hid (∀ W av cap, TensIn W av (staR s).1 → Calls Tryz.prog 17 #[.int .i64 (wrapN (slR s).1), .agg #[.int .i64 (wrapN (snR s).1), .slice av (staR s).1.length cap]] W fun e w' => e = .returned (.string (staB (wrapN (slR s).1) (wrapN (snR s).1) (staR s).1)) ∧ Below W.heap.size W w') := fun W av cap h => implEst_any _ _ av cap (staR s).1 W h (fun i hi => by
      obtain ⟨a1, a2, a3, a4, a5⟩ := hpin i hi
      exact ⟨by omega, by omega, by omega, fun j hj => by have := a4 j hj; omega, fun j hj => by have := a5 j hj; omega⟩) (by omega) (by omega)
    have HST : Hid (∀ W av cap, TensIn W av (staR s).1 → UTab W → Calls Tryz.prog 18 #[.agg #[.int .i64 c.w, .int .i64 c.tl, .int .i64 c.ml, .int .i64 c.sh, .int .i64 c.ha, .int .i64 c.sg], .agg #[.int .i64 (wrapN (snR s).1), .slice av (staR s).1.length cap]] W fun e w' => e = .returned (.bool (stateB c (wrapN (snR s).1) (staR s).1)) ∧ Below W.heap.size W w') := fun W av cap h hu => implState_any c _ av cap (staR s).1 1048576 W h (fun i hi => by
      obtain ⟨a1, a2, a3, a4, a5⟩ := hpin i hi
      exact ⟨by unfold maxLen; omega, fun j hj => by have := a4 j hj; omega, fun j hj => by have := a5 j hj; omega, by omega, by omega, by omega⟩) (by omega) hu
    clear hz hcnt hpin
    have HU : Hid (UTab w) := hU
    clear hU
    by_cases heq : staB (wrapN (slR s).1) (wrapN (snR s).1) (staR s).1 = s
    · cases hok : stateB c (wrapN (snR s).1) (staR s).1 with
      | true =>
        have E : Hid (decS c s = (wrapN (slR s).1, wrapN (snR s).1, (staR s).1, true)) := decS_eq hsh heq hok
        rw [heq] at HEN
        rw [hok] at HST
        unfold DecSOut
        rw [E.out]
        clear heq hok
        generalize wrapN (slR s).1 = L at *
        generalize wrapN (snR s).1 = N at *
        generalize (staR s).1 = ts at *
        generalize (staR s).2 = rz at *
        simp only
        go_enter_defers Tryz.func6, Tryz.ntmps6
        go_wp2_with fail
        refine (HBD.out _ (w.heap.size + 1 + 1 + 1 + 1) HNEW.out.2.1).mono ?_
        rintro e w1 (⟨_, av, cap, rfl, ho1, _, hb1⟩ | ⟨h, _⟩)
        rotate_left
        · rw [hsh] at h; cases h
        have X1 : Hid (BxS w1 w.heap.size c 0 0 (.slice none 0 0)) := HNEW.out.1.but hb1 (by omega)
        have B1 : Hid (Below w.heap.size w w1) := HNEW.out.2.2.trans (hb1.below (by omega) (by simp; omega))
        have O1 : Hid (TensOwn w1 (w.heap.size + 1 + 1 + 1 + 1 + 1) av ts) := hid (by have := ho1; simpa using this)
        have y0 : w1.cell? ⟨w.heap.size + 1, 0, none⟩ = some (.int .i64 0) := X1.out.2.1.cell 0
        have y1 : w1.cell? ⟨w.heap.size + 1 + 1, 0, none⟩ = some (.int .i64 0) := X1.out.2.2.1.cell 0
        have y2 : w1.cell? ⟨w.heap.size + 1 + 1, 1, none⟩ = some (.slice none 0 0) := X1.out.2.2.1.cell 1
        have f0 := X1.out.2.1.free 0
        have f1 := X1.out.2.2.1.free 0
        have f2 := X1.out.2.2.1.free 1
        clear ho1 hb1 HBD HNEW
        go_wp2_with fail
        have X2 : Hid (BxS (((w1.setCell ⟨w.heap.size + 1, 0, none⟩ (.int .i64 L)).setCell ⟨w.heap.size + 1 + 1, 0, none⟩ (.int .i64 N)).setCell ⟨w.heap.size + 1 + 1, 1, none⟩ (.slice av ts.length cap)) w.heap.size c L N (.slice av ts.length cap)) := X1.out.set
        have B2 : Hid (Below w.heap.size w (((w1.setCell ⟨w.heap.size + 1, 0, none⟩ (.int .i64 L)).setCell ⟨w.heap.size + 1 + 1, 0, none⟩ (.int .i64 N)).setCell ⟨w.heap.size + 1 + 1, 1, none⟩ (.slice av ts.length cap))) := ((B1.out.setCell (by simp <;> omega) _).setCell (by simp <;> omega) _).setCell (by simp <;> omega) _
        have O2 : Hid (TensOwn (((w1.setCell ⟨w.heap.size + 1, 0, none⟩ (.int .i64 L)).setCell ⟨w.heap.size + 1 + 1, 0, none⟩ (.int .i64 N)).setCell ⟨w.heap.size + 1 + 1, 1, none⟩ (.slice av ts.length cap)) (w.heap.size + 1 + 1 + 1 + 1 + 1) av ts) := tens_turn (S := fun g => g < w.heap.size + 1 + 1 + 1 + 1) O1.out ((((Turn.refl _ _).setCell (Or.inl (by omega)) 0 _).setCell (Or.inl (by omega)) 0 _).setCell (Or.inl (by omega)) 1 _) (fun g hg => by omega)
        clear X1 B1 O1 y0 y1 y2 f0 f1 f2
        generalize ((w1.setCell ⟨w.heap.size + 1, 0, none⟩ (.int .i64 L)).setCell ⟨w.heap.size + 1 + 1, 0, none⟩ (.int .i64 N)).setCell ⟨w.heap.size + 1 + 1, 1, none⟩ (.slice av ts.length cap) = W2 at *
        refine (HEN.out _ _ _ O2.out.tens).mono ?_
        rintro e w3 ⟨rfl, hb3⟩
        have X3 : Hid (BxS w3 w.heap.size c L N (.slice av ts.length cap)) := X2.out.later hb3
        have B3 : Hid (Below w.heap.size w w3) := bto B2.out hb3
        have O3 : Hid (TensOwn w3 (w.heap.size + 1 + 1 + 1 + 1 + 1) av ts) := O2.out.later hb3
        clear X2 B2 O2 hb3 HEN
        have g0 : w3.cell? ⟨w.heap.size, 0, none⟩ = some (.int .i64 c.w) := X3.out.1.cell 0
        have g1 : w3.cell? ⟨w.heap.size, 1, none⟩ = some (.int .i64 c.tl) := X3.out.1.cell 1
        have g2 : w3.cell? ⟨w.heap.size, 2, none⟩ = some (.int .i64 c.ml) := X3.out.1.cell 2
        have g3 : w3.cell? ⟨w.heap.size, 3, none⟩ = some (.int .i64 c.sh) := X3.out.1.cell 3
        have g4 : w3.cell? ⟨w.heap.size, 4, none⟩ = some (.int .i64 c.ha) := X3.out.1.cell 4
        have g5 : w3.cell? ⟨w.heap.size, 5, none⟩ = some (.int .i64 c.sg) := X3.out.1.cell 5
        have x0 : w3.cell? ⟨w.heap.size + 1, 0, none⟩ = some (.int .i64 L) := X3.out.2.1.cell 0
        have x1 : w3.cell? ⟨w.heap.size + 1 + 1, 0, none⟩ = some (.int .i64 N) := X3.out.2.2.1.cell 0
        have x2 : w3.cell? ⟨w.heap.size + 1 + 1, 1, none⟩ = some (.slice av ts.length cap) := X3.out.2.2.1.cell 1
        have x3 : w3.cell? ⟨w.heap.size + 1 + 1 + 1, 0, none⟩ = some (.bool false) := X3.out.2.2.2.cell 0
        have f0 := X3.out.2.1.free 0
        have f1 := X3.out.2.2.1.free 0
        have f2 := X3.out.2.2.1.free 1
        have f3 := X3.out.2.2.2.free 0
        go_wp2_with fail
        refine (HST.out _ _ _ O3.out.tens (HU.out.later B3.out)).mono ?_
        rintro e w5 ⟨rfl, hb5⟩
        have X5 : Hid (BxS w5 w.heap.size c L N (.slice av ts.length cap)) := X3.out.later hb5
        have B5 : Hid (Below w.heap.size w w5) := bto B3.out hb5
        have O5 : Hid (TensOwn w5 (w.heap.size + 1 + 1 + 1 + 1 + 1) av ts) := O3.out.later hb5
        clear X3 B3 O3 hb5 HST g0 g1 g2 g3 g4 g5 x0 x1 x2 x3 f0 f1 f2 f3
        have x0 : w5.cell? ⟨w.heap.size + 1, 0, none⟩ = some (.int .i64 L) := X5.out.2.1.cell 0
        have x1 : w5.cell? ⟨w.heap.size + 1 + 1, 0, none⟩ = some (.int .i64 N) := X5.out.2.2.1.cell 0
        have x2 : w5.cell? ⟨w.heap.size + 1 + 1, 1, none⟩ = some (.slice av ts.length cap) := X5.out.2.2.1.cell 1
        have x3 : w5.cell? ⟨w.heap.size + 1 + 1 + 1, 0, none⟩ = some (.bool false) := X5.out.2.2.2.cell 0
        have f0 := X5.out.2.1.free 0
        have f1 := X5.out.2.2.1.free 0
        have f2 := X5.out.2.2.1.free 1
        have f3 := X5.out.2.2.2.free 0
        go_wp2_with fail
        refine (must_ok _ _).mono ?_
        rintro e w6 ⟨rfl, hw⟩
        replace hw := hw.symm
        subst hw
        go_wp2_with fail
        go_region
        go_wp2
        refine leaves_cons (f := 14) (args := #[.pointer (some ⟨w.heap.size + 1, 0, none⟩), .pointer (some ⟨w.heap.size + 1 + 1, 0, none⟩), .pointer (some ⟨w.heap.size + 1 + 1 + 1, 0, none⟩)]) (by simp) (by simp [go_sem]) ?_
        refine (catchS_idle _ _ _ _).mono ?_
        rintro e u' w'' ⟨rfl, rfl, rfl⟩
        simp [Leaves, settle, results, Tryz.results6, go_sem, x0, x1, x2, x3]
        have HTE : Turn (fun g => g < w.heap.size + 1 + 1 + 1 + 1) w5 ((((w5.setCell ⟨w.heap.size + 1, 0, none⟩ (.int .i64 L)).setCell ⟨w.heap.size + 1 + 1, 0, none⟩ (.int .i64 N)).setCell ⟨w.heap.size + 1 + 1, 1, none⟩ (.slice av ts.length cap)).setCell ⟨w.heap.size + 1 + 1 + 1, 0, none⟩ (.bool true)) := ((((Turn.refl _ _).setCell (Or.inl (by omega)) 0 _).setCell (Or.inl (by omega)) 0 _).setCell (Or.inl (by omega)) 1 _).setCell (Or.inl (by omega)) 0 _
        have BE : Below w.heap.size w ((((w5.setCell ⟨w.heap.size + 1, 0, none⟩ (.int .i64 L)).setCell ⟨w.heap.size + 1 + 1, 0, none⟩ (.int .i64 N)).setCell ⟨w.heap.size + 1 + 1, 1, none⟩ (.slice av ts.length cap)).setCell ⟨w.heap.size + 1 + 1 + 1, 0, none⟩ (.bool true)) := (((B5.out.setCell (by simp <;> omega) _).setCell (by simp <;> omega) _).setCell (by simp <;> omega) _).setCell (by simp <;> omega) _
        first
          | exact ⟨(tens_turn O5.out HTE (fun g hg => by omega)).base (by omega), BE⟩
          | exact ⟨(tens_turn O5.out HTE.drew (fun g hg => by omega)).base (by omega), BE.drew⟩
      | false =>
        have E : Hid (decS c s = (0, 0, [], false)) := decS_no hok
        rw [heq] at HEN
        rw [hok] at HST
        unfold DecSOut
        rw [E.out]
        clear heq hok
        generalize wrapN (slR s).1 = L at *
        generalize wrapN (snR s).1 = N at *
        generalize (staR s).1 = ts at *
        generalize (staR s).2 = rz at *
        go_enter_defers Tryz.func6, Tryz.ntmps6
        go_wp2_with fail
        refine (HBD.out _ (w.heap.size + 1 + 1 + 1 + 1) HNEW.out.2.1).mono ?_
        rintro e w1 (⟨_, av, cap, rfl, ho1, _, hb1⟩ | ⟨h, _⟩)
        rotate_left
        · rw [hsh] at h; cases h
        have X1 : Hid (BxS w1 w.heap.size c 0 0 (.slice none 0 0)) := HNEW.out.1.but hb1 (by omega)
        have B1 : Hid (Below w.heap.size w w1) := HNEW.out.2.2.trans (hb1.below (by omega) (by simp; omega))
        have O1 : Hid (TensOwn w1 (w.heap.size + 1 + 1 + 1 + 1 + 1) av ts) := hid (by have := ho1; simpa using this)
        have y0 : w1.cell? ⟨w.heap.size + 1, 0, none⟩ = some (.int .i64 0) := X1.out.2.1.cell 0
        have y1 : w1.cell? ⟨w.heap.size + 1 + 1, 0, none⟩ = some (.int .i64 0) := X1.out.2.2.1.cell 0
        have y2 : w1.cell? ⟨w.heap.size + 1 + 1, 1, none⟩ = some (.slice none 0 0) := X1.out.2.2.1.cell 1
        have f0 := X1.out.2.1.free 0
        have f1 := X1.out.2.2.1.free 0
        have f2 := X1.out.2.2.1.free 1
        clear ho1 hb1 HBD HNEW
        go_wp2_with fail
        have X2 : Hid (BxS (((w1.setCell ⟨w.heap.size + 1, 0, none⟩ (.int .i64 L)).setCell ⟨w.heap.size + 1 + 1, 0, none⟩ (.int .i64 N)).setCell ⟨w.heap.size + 1 + 1, 1, none⟩ (.slice av ts.length cap)) w.heap.size c L N (.slice av ts.length cap)) := X1.out.set
        have B2 : Hid (Below w.heap.size w (((w1.setCell ⟨w.heap.size + 1, 0, none⟩ (.int .i64 L)).setCell ⟨w.heap.size + 1 + 1, 0, none⟩ (.int .i64 N)).setCell ⟨w.heap.size + 1 + 1, 1, none⟩ (.slice av ts.length cap))) := ((B1.out.setCell (by simp <;> omega) _).setCell (by simp <;> omega) _).setCell (by simp <;> omega) _
        have O2 : Hid (TensOwn (((w1.setCell ⟨w.heap.size + 1, 0, none⟩ (.int .i64 L)).setCell ⟨w.heap.size + 1 + 1, 0, none⟩ (.int .i64 N)).setCell ⟨w.heap.size + 1 + 1, 1, none⟩ (.slice av ts.length cap)) (w.heap.size + 1 + 1 + 1 + 1 + 1) av ts) := tens_turn (S := fun g => g < w.heap.size + 1 + 1 + 1 + 1) O1.out ((((Turn.refl _ _).setCell (Or.inl (by omega)) 0 _).setCell (Or.inl (by omega)) 0 _).setCell (Or.inl (by omega)) 1 _) (fun g hg => by omega)
        clear X1 B1 O1 y0 y1 y2 f0 f1 f2
        generalize ((w1.setCell ⟨w.heap.size + 1, 0, none⟩ (.int .i64 L)).setCell ⟨w.heap.size + 1 + 1, 0, none⟩ (.int .i64 N)).setCell ⟨w.heap.size + 1 + 1, 1, none⟩ (.slice av ts.length cap) = W2 at *
        refine (HEN.out _ _ _ O2.out.tens).mono ?_
        rintro e w3 ⟨rfl, hb3⟩
        have X3 : Hid (BxS w3 w.heap.size c L N (.slice av ts.length cap)) := X2.out.later hb3
        have B3 : Hid (Below w.heap.size w w3) := bto B2.out hb3
        have O3 : Hid (TensOwn w3 (w.heap.size + 1 + 1 + 1 + 1 + 1) av ts) := O2.out.later hb3
        clear X2 B2 O2 hb3 HEN
        have g0 : w3.cell? ⟨w.heap.size, 0, none⟩ = some (.int .i64 c.w) := X3.out.1.cell 0
        have g1 : w3.cell? ⟨w.heap.size, 1, none⟩ = some (.int .i64 c.tl) := X3.out.1.cell 1
        have g2 : w3.cell? ⟨w.heap.size, 2, none⟩ = some (.int .i64 c.ml) := X3.out.1.cell 2
        have g3 : w3.cell? ⟨w.heap.size, 3, none⟩ = some (.int .i64 c.sh) := X3.out.1.cell 3
        have g4 : w3.cell? ⟨w.heap.size, 4, none⟩ = some (.int .i64 c.ha) := X3.out.1.cell 4
        have g5 : w3.cell? ⟨w.heap.size, 5, none⟩ = some (.int .i64 c.sg) := X3.out.1.cell 5
        have x0 : w3.cell? ⟨w.heap.size + 1, 0, none⟩ = some (.int .i64 L) := X3.out.2.1.cell 0
        have x1 : w3.cell? ⟨w.heap.size + 1 + 1, 0, none⟩ = some (.int .i64 N) := X3.out.2.2.1.cell 0
        have x2 : w3.cell? ⟨w.heap.size + 1 + 1, 1, none⟩ = some (.slice av ts.length cap) := X3.out.2.2.1.cell 1
        have x3 : w3.cell? ⟨w.heap.size + 1 + 1 + 1, 0, none⟩ = some (.bool false) := X3.out.2.2.2.cell 0
        have f0 := X3.out.2.1.free 0
        have f1 := X3.out.2.2.1.free 0
        have f2 := X3.out.2.2.1.free 1
        have f3 := X3.out.2.2.2.free 0
        go_wp2_with fail
        refine (HST.out _ _ _ O3.out.tens (HU.out.later B3.out)).mono ?_
        rintro e w5 ⟨rfl, hb5⟩
        have X5 : Hid (BxS w5 w.heap.size c L N (.slice av ts.length cap)) := X3.out.later hb5
        have B5 : Hid (Below w.heap.size w w5) := bto B3.out hb5
        have O5 : Hid (TensOwn w5 (w.heap.size + 1 + 1 + 1 + 1 + 1) av ts) := O3.out.later hb5
        clear X3 B3 O3 hb5 HST g0 g1 g2 g3 g4 g5 x0 x1 x2 x3 f0 f1 f2 f3
        have x0 : w5.cell? ⟨w.heap.size + 1, 0, none⟩ = some (.int .i64 L) := X5.out.2.1.cell 0
        have x1 : w5.cell? ⟨w.heap.size + 1 + 1, 0, none⟩ = some (.int .i64 N) := X5.out.2.2.1.cell 0
        have x2 : w5.cell? ⟨w.heap.size + 1 + 1, 1, none⟩ = some (.slice av ts.length cap) := X5.out.2.2.1.cell 1
        have x3 : w5.cell? ⟨w.heap.size + 1 + 1 + 1, 0, none⟩ = some (.bool false) := X5.out.2.2.2.cell 0
        have f0 := X5.out.2.1.free 0
        have f1 := X5.out.2.2.1.free 0
        have f2 := X5.out.2.2.1.free 1
        have f3 := X5.out.2.2.2.free 0
        go_wp2_with fail
        refine (must_bad _ _).mono ?_
        rintro e w6 ⟨rfl, hw⟩
        replace hw := hw.symm
        subst hw
        refine leaves_cons (f := 14) (args := #[.pointer (some ⟨w.heap.size + 1, 0, none⟩), .pointer (some ⟨w.heap.size + 1 + 1, 0, none⟩), .pointer (some ⟨w.heap.size + 1 + 1 + 1, 0, none⟩)]) (by simp) (by simp [go_sem]) ?_
        refine (catchS_panic (w.heap.size + 1) (w.heap.size + 1 + 1) (w.heap.size + 1 + 1 + 1) _ _ _ _ _ _ [] _ x0 x1 x2 x3 f0 f1 f2 f3 (by omega) (by omega) (by omega)).mono ?_
        rintro e u' w'' ⟨rfl, rfl, rfl⟩
        simp [Leaves, settle, results, Tryz.results6, go_sem, x0, x1, x2, x3]
        exact ⟨Or.inl rfl, (((B5.out.setCell (by simp <;> omega) _).setCell (by simp <;> omega) _).setCell (by simp <;> omega) _).setCell (by simp <;> omega) _⟩
    · have E : Hid (decS c s = (0, 0, [], false)) := decS_ne heq
      unfold DecSOut
      rw [E.out]
      have hne : ((staB (wrapN (slR s).1) (wrapN (snR s).1) (staR s).1).toList == s.toList) = false := by
        apply Bool.eq_false_iff.2
        intro h
        apply heq
        apply bext
        have := eq_of_beq h
        rw [ByteArray.toList_eq, ByteArray.toList_eq] at this
        exact this
      clear heq HST
      generalize staB (wrapN (slR s).1) (wrapN (snR s).1) (staR s).1 = EB at *
      generalize wrapN (slR s).1 = L at *
      generalize wrapN (snR s).1 = N at *
      generalize (staR s).1 = ts at *
      generalize (staR s).2 = rz at *
      go_enter_defers Tryz.func6, Tryz.ntmps6
      go_wp2_with fail
      refine (HBD.out _ (w.heap.size + 1 + 1 + 1 + 1) HNEW.out.2.1).mono ?_
      rintro e w1 (⟨_, av, cap, rfl, ho1, _, hb1⟩ | ⟨h, _⟩)
      rotate_left
      · rw [hsh] at h; cases h
      have X1 : Hid (BxS w1 w.heap.size c 0 0 (.slice none 0 0)) := HNEW.out.1.but hb1 (by omega)
      have B1 : Hid (Below w.heap.size w w1) := HNEW.out.2.2.trans (hb1.below (by omega) (by simp; omega))
      have O1 : Hid (TensOwn w1 (w.heap.size + 1 + 1 + 1 + 1 + 1) av ts) := hid (by have := ho1; simpa using this)
      have y0 : w1.cell? ⟨w.heap.size + 1, 0, none⟩ = some (.int .i64 0) := X1.out.2.1.cell 0
      have y1 : w1.cell? ⟨w.heap.size + 1 + 1, 0, none⟩ = some (.int .i64 0) := X1.out.2.2.1.cell 0
      have y2 : w1.cell? ⟨w.heap.size + 1 + 1, 1, none⟩ = some (.slice none 0 0) := X1.out.2.2.1.cell 1
      have f0 := X1.out.2.1.free 0
      have f1 := X1.out.2.2.1.free 0
      have f2 := X1.out.2.2.1.free 1
      clear ho1 hb1 HBD HNEW
      go_wp2_with fail
      have X2 : Hid (BxS (((w1.setCell ⟨w.heap.size + 1, 0, none⟩ (.int .i64 L)).setCell ⟨w.heap.size + 1 + 1, 0, none⟩ (.int .i64 N)).setCell ⟨w.heap.size + 1 + 1, 1, none⟩ (.slice av ts.length cap)) w.heap.size c L N (.slice av ts.length cap)) := X1.out.set
      have B2 : Hid (Below w.heap.size w (((w1.setCell ⟨w.heap.size + 1, 0, none⟩ (.int .i64 L)).setCell ⟨w.heap.size + 1 + 1, 0, none⟩ (.int .i64 N)).setCell ⟨w.heap.size + 1 + 1, 1, none⟩ (.slice av ts.length cap))) := ((B1.out.setCell (by simp <;> omega) _).setCell (by simp <;> omega) _).setCell (by simp <;> omega) _
      have O2 : Hid (TensOwn (((w1.setCell ⟨w.heap.size + 1, 0, none⟩ (.int .i64 L)).setCell ⟨w.heap.size + 1 + 1, 0, none⟩ (.int .i64 N)).setCell ⟨w.heap.size + 1 + 1, 1, none⟩ (.slice av ts.length cap)) (w.heap.size + 1 + 1 + 1 + 1 + 1) av ts) := tens_turn (S := fun g => g < w.heap.size + 1 + 1 + 1 + 1) O1.out ((((Turn.refl _ _).setCell (Or.inl (by omega)) 0 _).setCell (Or.inl (by omega)) 0 _).setCell (Or.inl (by omega)) 1 _) (fun g hg => by omega)
      clear X1 B1 O1 y0 y1 y2 f0 f1 f2
      generalize ((w1.setCell ⟨w.heap.size + 1, 0, none⟩ (.int .i64 L)).setCell ⟨w.heap.size + 1 + 1, 0, none⟩ (.int .i64 N)).setCell ⟨w.heap.size + 1 + 1, 1, none⟩ (.slice av ts.length cap) = W2 at *
      refine (HEN.out _ _ _ O2.out.tens).mono ?_
      rintro e w3 ⟨rfl, hb3⟩
      have X3 : Hid (BxS w3 w.heap.size c L N (.slice av ts.length cap)) := X2.out.later hb3
      have B3 : Hid (Below w.heap.size w w3) := bto B2.out hb3
      have O3 : Hid (TensOwn w3 (w.heap.size + 1 + 1 + 1 + 1 + 1) av ts) := O2.out.later hb3
      clear X2 B2 O2 hb3 HEN
      have g0 : w3.cell? ⟨w.heap.size, 0, none⟩ = some (.int .i64 c.w) := X3.out.1.cell 0
      have g1 : w3.cell? ⟨w.heap.size, 1, none⟩ = some (.int .i64 c.tl) := X3.out.1.cell 1
      have g2 : w3.cell? ⟨w.heap.size, 2, none⟩ = some (.int .i64 c.ml) := X3.out.1.cell 2
      have g3 : w3.cell? ⟨w.heap.size, 3, none⟩ = some (.int .i64 c.sh) := X3.out.1.cell 3
      have g4 : w3.cell? ⟨w.heap.size, 4, none⟩ = some (.int .i64 c.ha) := X3.out.1.cell 4
      have g5 : w3.cell? ⟨w.heap.size, 5, none⟩ = some (.int .i64 c.sg) := X3.out.1.cell 5
      have x0 : w3.cell? ⟨w.heap.size + 1, 0, none⟩ = some (.int .i64 L) := X3.out.2.1.cell 0
      have x1 : w3.cell? ⟨w.heap.size + 1 + 1, 0, none⟩ = some (.int .i64 N) := X3.out.2.2.1.cell 0
      have x2 : w3.cell? ⟨w.heap.size + 1 + 1, 1, none⟩ = some (.slice av ts.length cap) := X3.out.2.2.1.cell 1
      have x3 : w3.cell? ⟨w.heap.size + 1 + 1 + 1, 0, none⟩ = some (.bool false) := X3.out.2.2.2.cell 0
      have f0 := X3.out.2.1.free 0
      have f1 := X3.out.2.2.1.free 0
      have f2 := X3.out.2.2.1.free 1
      have f3 := X3.out.2.2.2.free 0
      go_wp2_with fail
      refine (must_bad _ _).mono ?_
      rintro e w6 ⟨rfl, hw⟩
      replace hw := hw.symm
      subst hw
      refine leaves_cons (f := 14) (args := #[.pointer (some ⟨w.heap.size + 1, 0, none⟩), .pointer (some ⟨w.heap.size + 1 + 1, 0, none⟩), .pointer (some ⟨w.heap.size + 1 + 1 + 1, 0, none⟩)]) (by simp) (by simp [go_sem]) ?_
      refine (catchS_panic (w.heap.size + 1) (w.heap.size + 1 + 1) (w.heap.size + 1 + 1 + 1) _ _ _ _ _ _ [] _ x0 x1 x2 x3 f0 f1 f2 f3 (by omega) (by omega) (by omega)).mono ?_
      rintro e u' w'' ⟨rfl, rfl, rfl⟩
      simp [Leaves, settle, results, Tryz.results6, go_sem, x0, x1, x2, x3]
      exact ⟨Or.inl rfl, (((B3.out.setCell (by simp <;> omega) _).setCell (by simp <;> omega) _).setCell (by simp <;> omega) _).setCell (by simp <;> omega) _⟩
end Go.Proofs.YtoecnlhnfhongaaGreatDoor

