import Derived.Test.YtgpgacncmoiefaaProg
import Derived.Test.YtgpgacncmoiefaaIBatD
import Derived.Test.YtgpgacncmoiefaaIBat
import Derived.Tactics2
import Derived.Defers
import Derived.Recover
import Derived.Laws.Pointers
namespace Go.Proofs.Ytgpgacncmoiefaa
open Go.RowKit

set_option maxRecDepth 100000 in
theorem catchB_panic (R1 R2 : Nat) (c0 c1 d0 : Value) (u : TypeId) (pv : Value) (older : List PanicEntry) (w : World) (h0 : w.cell? ⟨R1, 0, none⟩ = some c0) (h1 : w.cell? ⟨R1, 1, none⟩ = some c1) (h2 : w.cell? ⟨R2, 0, none⟩ = some d0) (z0 : w.frozen? ⟨R1, 0, none⟩ = false) (z1 : w.frozen? ⟨R1, 1, none⟩ = false) (z2 : w.frozen? ⟨R2, 0, none⟩ = false) (hne : ¬ R2 = R1) :
    CallsD Try.prog 56 #[.pointer (some ⟨R1, 0, none⟩), .pointer (some ⟨R2, 0, none⟩)] (.panicking ({ v := .iface u pv, recovered := false } :: older)) w fun e u' w' =>
      e = .returned (.tuple #[]) ∧ u' = .panicking ({ v := .iface u pv, recovered := true } :: older) ∧ w' = ((w.setCell ⟨R1, 0, none⟩ (.int .i64 0)).setCell ⟨R1, 1, none⟩ (.slice none 0 0)).setCell ⟨R2, 0, none⟩ (.bool false) := by
  refine callsD_of_wpS Try.func56 rfl fun c₀ cs hu => ?_
  apply wpS_seq
  apply wpS_region
  simp [wpOpsS, go_sem, recoverD, hu, Try.ntmps56, Exit.thenS]
  refine wpS_cond (t := true) (by simp [Act.eval, Array.replicate]) ?_
  simp only [if_true]
  apply wpS_region
  simp [wpOpsS, go_sem, h0, h1, h2, z0, z1, z2, bodyPostS, results, Try.results56]
set_option maxRecDepth 100000 in
theorem catchB_idle (p q : Value) (w : World) :
    CallsD Try.prog 56 #[p, q] .returning w fun e u' w' => e = .returned (.tuple #[]) ∧ u' = .returning ∧ w' = w := by
  refine callsD_of_wpS Try.func56 rfl fun c₀ cs hu => ?_
  apply wpS_seq
  apply wpS_region
  simp [wpOpsS, go_sem, recoverD, hu, Try.ntmps56, Exit.thenS]
  refine wpS_cond (t := false) (by simp [Act.eval, Array.replicate]) ?_
  simp only [Bool.false_eq_true, if_false]
  refine wpS_of_wp (wp_skip ?_)
  cases c₀
  simp_all [bodyPostS, results, Try.results56]

theorem rec_sizes (r : Rd) : (recR r).1.tenant.size ≤ r.rest.size ∧ (recR r).1.text.size ≤ r.rest.size := by
  have h1 := (take_le 1 r).2.2
  have h2 := text_le 1 (numR 1 r).2
  have h3 := text_le 2 (textR 1 (numR 1 r).2).2
  have e1 : (numR 1 r).2 = (takeR 1 r).2 := by rw [numR]
  rw [← e1] at h1
  rw [recR_fst]
  generalize wrapN (numR 8 (textR 2 (textR 1 (numR 1 r).2).2).2).1 = Z
  generalize textR 2 (textR 1 (numR 1 r).2).2 = A at *
  generalize textR 1 (numR 1 r).2 = C at *
  generalize numR 1 r = D at *
  exact ⟨by show C.1.size ≤ _; omega, by show A.1.size ≤ _; omega⟩
theorem rds_sizes (r : Rd) : ∀ k i (h : i < (rdRs r k).1.length), (rdRs r k).1[i].tenant.size ≤ r.rest.size ∧ (rdRs r k).1[i].text.size ≤ r.rest.size
  | 0, i, h => absurd h (by simp [rdRs])
  | k + 1, i, h => by
    simp only [rdRs_succ]
    rw [List.getElem_append]
    split
    · rename_i hh; exact rds_sizes r k i hh
    · simp only [List.getElem_singleton]
      have h1 := rec_sizes (rdRs r k).2
      have h2 := rdRs_big r k
      generalize recR (rdRs r k).2 = R at *
      omega
theorem batR_big (s : ByteArray) (hs : s.size ≤ 1000000000) : BigR (batR s).1 := by
  intro i h
  have h1 : (cntB s).2.rest.size ≤ s.size := by
    have a1 := (take_le 2 (lsnR s).2).2.2
    have a2 := (take_le 8 ⟨s, false⟩).2.2
    have e1 : (cntB s).2 = (takeR 2 (lsnR s).2).2 := by rw [cntB, numR]
    have e2 : (lsnR s).2 = (takeR 8 ⟨s, false⟩).2 := by rw [lsnR, numR]
    rw [e1]
    rw [e2] at a1 ⊢
    exact Nat.le_trans a1 a2
  have h2 := rds_sizes (cntB s).2 (cntB s).1 i h
  have e : (batR s).1[i] = (rdRs (cntB s).2 (cntB s).1).1[i]'h := rfl
  rw [e]
  omega
theorem batR_len (s : ByteArray) : (batR s).1.length < 65536 := by
  rw [batR, rdRs_length, cntB]
  exact num_lt 2 _
theorem own_set {w : World} {B g o : Nat} {v : Value} {a : Option Addr} {xs : List RecD} (h : RecsOwn w B a xs) (hg : g < B) : RecsOwn (w.setCell ⟨g, o, none⟩ v) B a xs := by
  rcases h with h | ⟨g', o', cur, t, rfl, hB, hb, hat⟩
  · exact Or.inl h
  · have hk : (w.setCell ⟨g, o, none⟩ v).heap[g']? = w.heap[g']? := ((But.refl g w).setCell o v).block g' (lt_of_block hb) (by omega)
    have hc : ∀ j, (w.setCell ⟨g, o, none⟩ v).cell? ⟨g', j, none⟩ = w.cell? ⟨g', j, none⟩ := fun j => World.cell?_of_block hk
    exact Or.inr ⟨g', o', cur, t, rfl, hB, hk.trans hb, fun i hi => by simp only [hc]; exact hat i hi⟩
/-- What impl.DecodeBatch hands back. -/
def DecOut (s : ByteArray) (w : World) (e : Ending) (w' : World) : Prop :=
  ∃ av cap, e = .returned (.tuple #[.agg #[.int .i64 (decB s).1, .slice av (decB s).2.1.length cap], .bool (decB s).2.2]) ∧ RecsOwn w' w.heap.size av (decB s).2.1 ∧ Below w.heap.size w w'

set_option maxRecDepth 100000 in
set_option maxHeartbeats 4000000 in
theorem implDecB_any (s : ByteArray) (w : World) (hs : s.size ≤ 1000000000) : Calls Try.prog 24 #[.string s] w fun e w' => DecOut s w e w' := by
  have hmf : ∀ (fn : Fn) (first cap : Array Value) (w : World), (Instr.makeFunc fn first cap).run Try.prog w = .ok (.func fn first cap) w := fun _ _ _ _ => rfl
  have HBD : Hid (∀ W B, RT W B ⟨s, false⟩ → Calls Try.prog 57 #[.pointer (some ⟨B, 0, none⟩)] W fun e w' => BatOut B s W e w') := fun W B h => batchD_any B s W h hs
  unfold BatOut at HBD
  cases hsh : (batR s).2.short with
  | true =>
    have E : Hid (decB s = (0, [], false)) := dec_short hsh
    unfold DecOut
    rw [E.out]
    go_enter_defers Try.func24, Try.ntmps24
    go_wp2_with fail
    refine (HBD.out _ (w.heap.size + 1 + 1) ⟨_, by have := Blk.new ((w.alloc (.cells #[.int .i64 0, .slice none 0 0] 37)).alloc (.cells #[.bool false] 4)) #[.string s, .bool false] 79; simpa using this⟩).mono ?_
    rintro e w1 (⟨h, _⟩ | ⟨_, rfl, hb1⟩)
    · rw [hsh] at h; cases h
    have X1 : Blk w1 w.heap.size #[.int .i64 0, .slice none 0 0] 37 := Blk.but (((Blk.new _ _ _).alloc _).alloc _) hb1 (by omega)
    have X2 : Blk w1 (w.heap.size + 1) #[.bool false] 4 := Blk.but (by have := (Blk.new (w.alloc (.cells #[.int .i64 0, .slice none 0 0] 37)) #[.bool false] 4).alloc (.cells #[.string s, .bool false] 79); simpa using this) hb1 (by omega)
    have B1 : Below w.heap.size w w1 := (((bnew _ _).trans ((bnew _ _).mono (by simp))).trans ((bnew _ _).mono (by simp; omega))).trans (hb1.below (by omega) (by simp; omega))
    refine leaves_cons (f := 56) (args := #[.pointer (some ⟨w.heap.size, 0, none⟩), .pointer (some ⟨w.heap.size + 1, 0, none⟩)]) (by simp) (by simp [go_sem]) ?_
    refine (catchB_panic w.heap.size (w.heap.size + 1) _ _ _ _ _ [] _ (X1.cell 0) (X1.cell 1) (X2.cell 0) (X1.free 0) (X1.free 1) (X2.free 0) (by omega)).mono ?_
    rintro e u' w'' ⟨rfl, rfl, rfl⟩
    have y0 : w1.cell? ⟨w.heap.size, 0, none⟩ = some (.int .i64 0) := X1.cell 0
    have y1 : w1.cell? ⟨w.heap.size, 1, none⟩ = some (.slice none 0 0) := X1.cell 1
    have y2 : w1.cell? ⟨w.heap.size + 1, 0, none⟩ = some (.bool false) := X2.cell 0
    simp [Leaves, settle, results, Try.results24, go_sem, y0, y1, y2]
    exact ⟨Or.inl rfl, ((B1.setCell (by simp) _).setCell (by simp) _).setCell (by simp) _⟩
  | false =>
    have HEN : Hid (∀ W av cap, RecsIn W av (batR s).1 → Calls Try.prog 21 #[.agg #[.int .i64 (wrapN (lsnR s).1), .slice av (batR s).1.length cap]] W fun e w' => e = .returned (.string (batB (wrapN (lsnR s).1) (batR s).1)) ∧ Below W.heap.size W w') := fun W av cap h => implBat_any _ av cap (batR s).1 W h (batR_big s hs) (by have := batR_len s; omega)
    by_cases heq : batB (wrapN (lsnR s).1) (batR s).1 = s
    · have E : Hid (decB s = (wrapN (lsnR s).1, (batR s).1, true)) := dec_eq heq hsh
      unfold DecOut
      rw [E.out]
      rw [heq] at HEN
      clear heq
      generalize wrapN (lsnR s).1 = L at *
      generalize (batR s).1 = xs at *
      generalize (batR s).2 = rz at *
      simp only
      go_enter_defers Try.func24, Try.ntmps24
      go_wp2_with fail
      refine (HBD.out _ (w.heap.size + 1 + 1) ⟨_, by have := Blk.new ((w.alloc (.cells #[.int .i64 0, .slice none 0 0] 37)).alloc (.cells #[.bool false] 4)) #[.string s, .bool false] 79; simpa using this⟩).mono ?_
      rintro e w1 (⟨_, av, cap, rfl, ho1, _, hb1⟩ | ⟨h, _⟩)
      · have X1 : Hid (Blk w1 w.heap.size #[.int .i64 0, .slice none 0 0] 37) := Blk.but (((Blk.new _ _ _).alloc _).alloc _) hb1 (by omega)
        have X2 : Hid (Blk w1 (w.heap.size + 1) #[.bool false] 4) := Blk.but (by have := (Blk.new (w.alloc (.cells #[.int .i64 0, .slice none 0 0] 37)) #[.bool false] 4).alloc (.cells #[.string s, .bool false] 79); simpa using this) hb1 (by omega)
        have B1 : Hid (Below w.heap.size w w1) := (((bnew _ _).trans ((bnew _ _).mono (by simp))).trans ((bnew _ _).mono (by simp; omega))).trans (hb1.below (by omega) (by simp; omega))
        have O1 : Hid (RecsOwn w1 (w.heap.size + 1 + 1 + 1) av xs) := hid (by have := ho1; simpa using this)
        have y0 : w1.cell? ⟨w.heap.size, 0, none⟩ = some (.int .i64 0) := X1.out.cell 0
        have y1 : w1.cell? ⟨w.heap.size, 1, none⟩ = some (.slice none 0 0) := X1.out.cell 1
        have f0 := X1.out.free 0
        have f1 := X1.out.free 1
        clear ho1 hb1 HBD
        go_wp2_with fail
        have X2' : Hid (Blk ((w1.setCell ⟨w.heap.size, 0, none⟩ (.int .i64 L)).setCell ⟨w.heap.size, 1, none⟩ (.slice av xs.length cap)) w.heap.size #[.int .i64 L, .slice av xs.length cap] 37) := hid (by have := (X1.out.set 0 (.int .i64 L)).set 1 (.slice av xs.length cap); simpa using this)
        have Y2' : Hid (Blk ((w1.setCell ⟨w.heap.size, 0, none⟩ (.int .i64 L)).setCell ⟨w.heap.size, 1, none⟩ (.slice av xs.length cap)) (w.heap.size + 1) #[.bool false] 4) := (X2.out.but ((But.refl w.heap.size w1).setCell 0 _) (by omega)).but ((But.refl w.heap.size _).setCell 1 _) (by omega)
        have B2 : Hid (Below w.heap.size w ((w1.setCell ⟨w.heap.size, 0, none⟩ (.int .i64 L)).setCell ⟨w.heap.size, 1, none⟩ (.slice av xs.length cap))) := (B1.out.setCell (by simp) _).setCell (by simp) _
        have O2 : Hid (RecsOwn ((w1.setCell ⟨w.heap.size, 0, none⟩ (.int .i64 L)).setCell ⟨w.heap.size, 1, none⟩ (.slice av xs.length cap)) (w.heap.size + 1 + 1 + 1) av xs) := own_set (own_set O1.out (by omega)) (by omega)
        clear X1 X2 B1 O1 y0 y1 f0 f1
        generalize (w1.setCell ⟨w.heap.size, 0, none⟩ (.int .i64 L)).setCell ⟨w.heap.size, 1, none⟩ (.slice av xs.length cap) = W2 at *
        refine (HEN.out _ _ _ O2.out.recs).mono ?_
        rintro e w3 ⟨rfl, hb3⟩
        have X3 : Hid (Blk w3 w.heap.size #[.int .i64 L, .slice av xs.length cap] 37) := X2'.out.later hb3
        have Y3 : Hid (Blk w3 (w.heap.size + 1) #[.bool false] 4) := Y2'.out.later hb3
        have B3 : Hid (Below w.heap.size w w3) := bto B2.out hb3
        have O3 : Hid (RecsOwn w3 (w.heap.size + 1 + 1 + 1) av xs) := O2.out.later hb3
        have x0 : w3.cell? ⟨w.heap.size, 0, none⟩ = some (.int .i64 L) := X3.out.cell 0
        have x1 : w3.cell? ⟨w.heap.size, 1, none⟩ = some (.slice av xs.length cap) := X3.out.cell 1
        have x2 : w3.cell? ⟨w.heap.size + 1, 0, none⟩ = some (.bool false) := Y3.out.cell 0
        have f0 := X3.out.free 0
        have f1 := X3.out.free 1
        have f2 := Y3.out.free 0
        clear X2' Y2' B2 O2 hb3 HEN
        go_wp2_with fail
        refine (must_ok _ _).mono ?_
        rintro e w4 ⟨rfl, hw⟩
        replace hw := hw.symm
        subst hw
        go_wp2
        refine leaves_cons (f := 56) (args := #[.pointer (some ⟨w.heap.size, 0, none⟩), .pointer (some ⟨w.heap.size + 1, 0, none⟩)]) (by simp) (by simp [go_sem]) ?_
        refine (catchB_idle _ _ _).mono ?_
        rintro e u' w'' ⟨rfl, rfl, rfl⟩
        simp [Leaves, settle, results, Try.results24, go_sem, x0, x1, x2]
        exact ⟨(own_set (own_set (own_set O3.out (by omega)) (by omega)) (by omega)).mono (by omega), ((B3.out.setCell (by simp) _).setCell (by simp) _).setCell (by simp) _⟩
      · rw [hsh] at h; cases h
    · have E : Hid (decB s = (0, [], false)) := dec_ne heq
      unfold DecOut
      rw [E.out]
      have hne : ((batB (wrapN (lsnR s).1) (batR s).1).toList == s.toList) = false := by
        apply Bool.eq_false_iff.2
        intro h
        apply heq
        apply bext
        have := eq_of_beq h
        rw [ByteArray.toList_eq, ByteArray.toList_eq] at this
        exact this
      clear heq
      generalize wrapN (lsnR s).1 = L at *
      generalize batB L (batR s).1 = EB at *
      generalize (batR s).1 = xs at *
      generalize (batR s).2 = rz at *
      go_enter_defers Try.func24, Try.ntmps24
      go_wp2_with fail
      refine (HBD.out _ (w.heap.size + 1 + 1) ⟨_, by have := Blk.new ((w.alloc (.cells #[.int .i64 0, .slice none 0 0] 37)).alloc (.cells #[.bool false] 4)) #[.string s, .bool false] 79; simpa using this⟩).mono ?_
      rintro e w1 (⟨_, av, cap, rfl, ho1, _, hb1⟩ | ⟨h, _⟩)
      · have X1 : Hid (Blk w1 w.heap.size #[.int .i64 0, .slice none 0 0] 37) := Blk.but (((Blk.new _ _ _).alloc _).alloc _) hb1 (by omega)
        have X2 : Hid (Blk w1 (w.heap.size + 1) #[.bool false] 4) := Blk.but (by have := (Blk.new (w.alloc (.cells #[.int .i64 0, .slice none 0 0] 37)) #[.bool false] 4).alloc (.cells #[.string s, .bool false] 79); simpa using this) hb1 (by omega)
        have B1 : Hid (Below w.heap.size w w1) := (((bnew _ _).trans ((bnew _ _).mono (by simp))).trans ((bnew _ _).mono (by simp; omega))).trans (hb1.below (by omega) (by simp; omega))
        have O1 : Hid (RecsOwn w1 (w.heap.size + 1 + 1 + 1) av xs) := hid (by have := ho1; simpa using this)
        have y0 : w1.cell? ⟨w.heap.size, 0, none⟩ = some (.int .i64 0) := X1.out.cell 0
        have y1 : w1.cell? ⟨w.heap.size, 1, none⟩ = some (.slice none 0 0) := X1.out.cell 1
        have f0 := X1.out.free 0
        have f1 := X1.out.free 1
        clear ho1 hb1 HBD
        go_wp2_with fail
        have X2' : Hid (Blk ((w1.setCell ⟨w.heap.size, 0, none⟩ (.int .i64 L)).setCell ⟨w.heap.size, 1, none⟩ (.slice av xs.length cap)) w.heap.size #[.int .i64 L, .slice av xs.length cap] 37) := hid (by have := (X1.out.set 0 (.int .i64 L)).set 1 (.slice av xs.length cap); simpa using this)
        have Y2' : Hid (Blk ((w1.setCell ⟨w.heap.size, 0, none⟩ (.int .i64 L)).setCell ⟨w.heap.size, 1, none⟩ (.slice av xs.length cap)) (w.heap.size + 1) #[.bool false] 4) := (X2.out.but ((But.refl w.heap.size w1).setCell 0 _) (by omega)).but ((But.refl w.heap.size _).setCell 1 _) (by omega)
        have B2 : Hid (Below w.heap.size w ((w1.setCell ⟨w.heap.size, 0, none⟩ (.int .i64 L)).setCell ⟨w.heap.size, 1, none⟩ (.slice av xs.length cap))) := (B1.out.setCell (by simp) _).setCell (by simp) _
        have O2 : Hid (RecsOwn ((w1.setCell ⟨w.heap.size, 0, none⟩ (.int .i64 L)).setCell ⟨w.heap.size, 1, none⟩ (.slice av xs.length cap)) (w.heap.size + 1 + 1 + 1) av xs) := own_set (own_set O1.out (by omega)) (by omega)
        clear X1 X2 B1 O1 y0 y1 f0 f1
        generalize (w1.setCell ⟨w.heap.size, 0, none⟩ (.int .i64 L)).setCell ⟨w.heap.size, 1, none⟩ (.slice av xs.length cap) = W2 at *
        refine (HEN.out _ _ _ O2.out.recs).mono ?_
        rintro e w3 ⟨rfl, hb3⟩
        have X3 : Hid (Blk w3 w.heap.size #[.int .i64 L, .slice av xs.length cap] 37) := X2'.out.later hb3
        have Y3 : Hid (Blk w3 (w.heap.size + 1) #[.bool false] 4) := Y2'.out.later hb3
        have B3 : Hid (Below w.heap.size w w3) := bto B2.out hb3
        have O3 : Hid (RecsOwn w3 (w.heap.size + 1 + 1 + 1) av xs) := O2.out.later hb3
        have x0 : w3.cell? ⟨w.heap.size, 0, none⟩ = some (.int .i64 L) := X3.out.cell 0
        have x1 : w3.cell? ⟨w.heap.size, 1, none⟩ = some (.slice av xs.length cap) := X3.out.cell 1
        have x2 : w3.cell? ⟨w.heap.size + 1, 0, none⟩ = some (.bool false) := Y3.out.cell 0
        have f0 := X3.out.free 0
        have f1 := X3.out.free 1
        have f2 := Y3.out.free 0
        clear X2' Y2' B2 O2 hb3 HEN
        go_wp2_with fail
        refine (must_bad _ _).mono ?_
        rintro e w4 ⟨rfl, hw⟩
        replace hw := hw.symm
        subst hw
        refine leaves_cons (f := 56) (args := #[.pointer (some ⟨w.heap.size, 0, none⟩), .pointer (some ⟨w.heap.size + 1, 0, none⟩)]) (by simp) (by simp [go_sem]) ?_
        refine (catchB_panic w.heap.size (w.heap.size + 1) _ _ _ _ _ [] _ x0 x1 x2 f0 f1 f2 (by omega)).mono ?_
        rintro e u' w'' ⟨rfl, rfl, rfl⟩
        simp [Leaves, settle, results, Try.results24, go_sem, x0, x1, x2]
        exact ⟨Or.inl rfl, ((B3.out.setCell (by simp) _).setCell (by simp) _).setCell (by simp) _⟩
      · rw [hsh] at h; cases h
end Go.Proofs.Ytgpgacncmoiefaa
