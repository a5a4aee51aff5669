import Derived.Test.YtoecnlhnfhongaaDoorProg
import Derived.Test.YtoecnlhnfhongaaDoorJ12IReqD
import Derived.Test.YtoecnlhnfhongaaDoorJ03RqD
import Derived.Tactics2
import Derived.Defers
import Derived.Recover
import Derived.Laws.Pointers
import Derived.Test.YtoecnlhnfhongaaDoorJ02SNum
namespace Go.Proofs.YtoecnlhnfhongaaDoor
open Go.RowKit

theorem rqN_short {s : ByteArray} (h : (rqK s).2.short = true) : (rqN s).2.short = true := by
  have h1 : (rqT s).2.short = true := by unfold rqT; split; · exact text_short h
                                         · exact h
  have h2 : (rqS s).2.short = true := by
    unfold rqS; split
    · exact rdXs_short (k := 0) (by rw [rdXs_zero, rqC]; exact num_short h1) _ (Nat.zero_le _)
    · exact h1
  have h3 : (rqM s).2.short = true := by unfold rqM; split; · exact text_short h2
                                         · exact h2
  unfold rqN; split
  · exact num_short h3
  · exact h3
set_option maxRecDepth 100000 in
set_option maxHeartbeats 8000000 in
theorem reqDbad_any (B : Nat) (s : ByteArray) (w : World) (hB : RT w B ⟨s, false⟩) (hs : s.size ≤ 1000000000) (hk : ¬ (1 ≤ (rqK s).1 ∧ (rqK s).1 ≤ 6)) :
    Calls Tryd.prog 26 #[.pointer (some ⟨B, 0, none⟩)] w fun e w' => RqOut B s w e w' := by
  have hBw : B < w.heap.size := by obtain ⟨t, h⟩ := hB; exact lt_of_block h
  have HB : Hid (RT w B ⟨s, false⟩) := hB
  have H0 : Hid (∀ W, RT W B ⟨s, false⟩ → Calls Tryd.prog 47 #[.pointer (some ⟨B, 0, none⟩), .int .i64 1] W fun e w' => (e = .returned (.int .i64 ((rqK s).1 : Nat)) ∧ But B W w') ∨ (e = .panicked dcdP ∧ But B W w')) := fun W h => by
    refine (numDr_any B _ 1 W h (by omega) hs).mono ?_
    have e0 : numR 1 ⟨s, false⟩ = rqK s := by rw [rqK]
    have hlt : (rqK s).1 < 256 := by rw [← e0]; exact num_lt 1 _
    rw [e0, wrapN_small (by omega)]
    rintro e w' (⟨a, b, c, d⟩ | ⟨a, b, c⟩)
    · exact Or.inl ⟨a, d⟩
    · exact Or.inr ⟨a, c⟩
  have HBAD : Hid (∀ w', But B w w' → RqOut B s w (.panicked dcdP) w') := fun w' h2 => Or.inr ⟨fun q => hk q.1, rfl, h2⟩
  have HIK : Hid (∀ W, Calls Tryd.prog 17 #[.int .i64 ((rqK s).1 : Nat)] W fun e w' => e = .returned (.bool false) ∧ Below W.heap.size W w') := fun W => by
    have := isKind_any ((rqK s).1 : Nat) W
    rw [decide_eq_false (by omega)] at this
    exact this
  generalize RqOut B s w = Post at *
  generalize ((rqK s).1 : Int) = K at *
  clear hB hk hs
  go_enter Tryd.func26, Tryd.ntmps26
  go_wp2_with fail
  refine (H0.out _ (HB.out.laterL (bnew _ _))).mono ?_
  rintro e w1 (⟨rfl, hb1⟩ | ⟨rfl, hb1⟩)
  rotate_left
  · exact ⟨rfl, HBAD.out _ ((But.of (bnew _ _)).trans hb1)⟩
  have K1 : Hid (But B w w1) := (But.of (bnew _ _)).trans hb1
  clear hb1 HB H0
  go_wp2_with fail
  refine (HIK.out _).mono ?_
  rintro e w2 ⟨rfl, hb2⟩
  have K2 : Hid (But B w w2) := (K1.out.trans (But.of (bnew _ _))).trans (But.of hb2)
  clear hb2
  go_wp2_with fail
  refine (must_bad _ _).mono ?_
  rintro e wx ⟨rfl, hw⟩
  replace hw := hw.symm
  subst hw
  exact ⟨rfl, HBAD.out _ K2.out⟩
theorem reqD_any (B : Nat) (s : ByteArray) (w : World) (hB : RT w B ⟨s, false⟩) (hs : s.size ≤ 1000000000) (hT : ShTab w) (hBG : 0 ≠ B) :
    Calls Tryd.prog 26 #[.pointer (some ⟨B, 0, none⟩)] w fun e w' => RqOut B s w e w' := by
  by_cases hk : 1 ≤ (rqK s).1 ∧ (rqK s).1 ≤ 6
  · have h : (rqK s).1 = 1 ∨ (rqK s).1 = 2 ∨ (rqK s).1 = 3 ∨ (rqK s).1 = 4 ∨ (rqK s).1 = 5 ∨ (rqK s).1 = 6 := by omega
    rcases h with h | h | h | h | h | h
    · exact reqD1_any B s w hB hs hT hBG h
    · exact reqD2_any B s w hB hs hT hBG h
    · exact reqD3_any B s w hB hs hT hBG h
    · exact reqD4_any B s w hB hs hT hBG h
    · exact reqD5_any B s w hB hs hT hBG h
    · exact reqD6_any B s w hB hs hT hBG h
  · exact reqDbad_any B s w hB hs hk
end Go.Proofs.YtoecnlhnfhongaaDoor

namespace Go.Proofs.YtoecnlhnfhongaaDoor
open Go.RowKit

theorem num_use {k : Nat} {r : Rd} (h : (numR k r).2.short = false) : r.short = false ∧ (numR k r).2.rest.size + k = r.rest.size := by
  have e : (numR k r).2 = (takeR k r).2 := by rw [numR]
  rw [e] at h ⊢
  obtain ⟨g1, g2, g3⟩ := take_sound (n := k) (r := r) h
  refine ⟨g1, ?_⟩
  have := congrArg ByteArray.size g3
  rw [ByteArray.size_append] at this
  omega
theorem text_use {k : Nat} {r : Rd} (h : (textR k r).2.short = false) : r.short = false ∧ (textR k r).1.size + (textR k r).2.rest.size + k = r.rest.size := by
  have e : (textR k r).2 = (takeR (numR k r).1 (numR k r).2).2 := by rw [textR]
  have e1 : (textR k r).1 = (takeR (numR k r).1 (numR k r).2).1 := by rw [textR]
  rw [e] at h ⊢
  rw [e1]
  obtain ⟨g1, g2, g3⟩ := take_sound (r := (numR k r).2) h
  obtain ⟨h1, h2⟩ := num_use (k := k) (r := r) g1
  refine ⟨h1, ?_⟩
  have := congrArg ByteArray.size g3
  rw [ByteArray.size_append] at this
  omega
theorem lab_use {r : Rd} (h : (labR r).2.short = false) : r.short = false ∧ (labR r).1.name.size + (labR r).1.value.size + (labR r).2.rest.size + 3 = r.rest.size := by
  rw [labR_eq] at h ⊢
  obtain ⟨a1, a2⟩ := text_use (k := 2) (r := (textR 1 r).2) h
  obtain ⟨b1, b2⟩ := text_use (k := 1) (r := r) a1
  refine ⟨b1, ?_⟩
  simp only
  omega
theorem rdK_use {r : Rd} (k : Nat) : (rdK r k).2.short = false → r.short = false ∧ k + labBulk (rdK r k).1 + (rdK r k).2.rest.size ≤ r.rest.size := by
  induction k with
  | zero =>
    intro h
    rw [rdK] at h ⊢
    exact ⟨h, by simp [labBulk]⟩
  | succ k ih =>
    intro h
    rw [rdK_succ] at h ⊢
    simp only at h ⊢
    obtain ⟨h1, h2⟩ := lab_use h
    obtain ⟨g1, g2⟩ := ih h1
    refine ⟨g1, ?_⟩
    rw [labBulk_append]
    have e : labBulk [(labR (rdK r k).2).1] = (labR (rdK r k).2).1.name.size + (labR (rdK r k).2).1.value.size := by simp [labBulk]
    rw [e]
    omega
theorem smp_use {r : Rd} (h : (smpR r).2.short = false) : r.short = false ∧ smpBulk (smpR r).1 + (smpR r).2.rest.size + 9 ≤ r.rest.size := by
  rw [smpR_snd, smB] at h
  obtain ⟨a1, a2⟩ := num_use h
  rw [smL] at a1
  obtain ⟨b1, b2⟩ := rdK_use _ a1
  rw [smN] at b1
  obtain ⟨c1, c2⟩ := num_use b1
  refine ⟨c1, ?_⟩
  rw [smpR_fst, smpR_snd]
  have e1 : smpBulk ⟨(smL r).1, wrapN (smB r).1⟩ = (smL r).1.length + labBulk (smL r).1 := rfl
  have e2 : (smL r).1.length = (smN r).1 := by rw [smL, rdK_length]
  rw [e1, e2, smB]
  rw [smL] at a2 ⊢
  rw [smN] at b2 a2 ⊢
  omega
theorem rdXs_use {r : Rd} (k : Nat) : (rdXs r k).2.short = false → r.short = false ∧ k + smpsBulk (rdXs r k).1 + (rdXs r k).2.rest.size ≤ r.rest.size := by
  induction k with
  | zero =>
    intro h
    rw [rdXs_zero] at h ⊢
    exact ⟨h, by simp [smpsBulk]⟩
  | succ k ih =>
    intro h
    rw [rdXs_succ] at h ⊢
    simp only at h ⊢
    obtain ⟨h1, h2⟩ := smp_use h
    obtain ⟨g1, g2⟩ := ih h1
    refine ⟨g1, ?_⟩
    rw [smpsBulk_append]
    have e : smpsBulk [(smpR (rdXs r k).2).1] = smpBulk (smpR (rdXs r k).2).1 := by simp [smpsBulk]
    rw [e]
    omega
theorem rqT_use {s : ByteArray} (h : (rqT s).2.short = false) : (rqT s).1.size + (rqT s).2.rest.size ≤ s.size := by
  unfold rqT at h ⊢
  split
  · rename_i hk
    rw [if_pos hk] at h
    obtain ⟨a1, a2⟩ := text_use h
    rw [rqK] at a1 a2 ⊢
    obtain ⟨b1, b2⟩ := num_use a1
    have : (⟨s, false⟩ : Rd).rest.size = s.size := rfl
    omega
  · rename_i hk
    rw [if_neg hk] at h
    simp only at h ⊢
    rw [rqK] at h ⊢
    obtain ⟨b1, b2⟩ := num_use h
    have : (⟨s, false⟩ : Rd).rest.size = s.size := rfl
    have : ByteArray.empty.size = 0 := rfl
    omega
theorem rqS_use {s : ByteArray} (h : (rqS s).2.short = false) : (rqT s).2.short = false ∧ (rqS s).1.length + smpsBulk (rqS s).1 + (rqS s).2.rest.size ≤ (rqT s).2.rest.size := by
  unfold rqS at h ⊢
  split
  · rename_i hk
    rw [if_pos hk] at h
    obtain ⟨a1, a2⟩ := rdXs_use _ h
    have e := rdXs_length (rqC s).2 (rqC s).1
    rw [e]
    rw [rqC] at a1
    obtain ⟨b1, b2⟩ := num_use a1
    have e2 : (rqC s).2 = (numR 2 (rqT s).2).2 := by rw [rqC]
    rw [e2] at a2 ⊢
    exact ⟨b1, by omega⟩
  · rename_i hk
    rw [if_neg hk] at h
    exact ⟨h, by simp [smpsBulk]⟩
theorem rqM_use {s : ByteArray} (h : (rqM s).2.short = false) : (rqS s).2.short = false ∧ (rqM s).1.size + (rqM s).2.rest.size ≤ (rqS s).2.rest.size := by
  unfold rqM at h ⊢
  split
  · rename_i hk
    rw [if_pos hk] at h
    obtain ⟨a1, a2⟩ := text_use h
    exact ⟨a1, by omega⟩
  · rename_i hk
    rw [if_neg hk] at h
    have : ByteArray.empty.size = 0 := rfl
    exact ⟨h, by simp only; omega⟩
theorem rqN_use {s : ByteArray} (h : (rqN s).2.short = false) : (rqM s).2.short = false := by
  unfold rqN at h
  split at h
  · exact (num_use h).1
  · exact h
theorem rq_bulk {s : ByteArray} (h : (rqN s).2.short = false) : reqBulk (rqR s) ≤ s.size := by
  have h1 := rqN_use h
  obtain ⟨h2, g2⟩ := rqM_use h1
  obtain ⟨h3, g3⟩ := rqS_use h2
  have g4 := rqT_use h3
  have e : reqBulk (rqR s) = (rqT s).1.size + (rqM s).1.size + (rqS s).1.length + smpsBulk (rqS s).1 := rfl
  rw [e]
  omega
end Go.Proofs.YtoecnlhnfhongaaDoor

namespace Go.Proofs.YtoecnlhnfhongaaDoor
open Go.RowKit

set_option maxRecDepth 100000 in
theorem catchR_panic (R1 R2 : Nat) (c0 c1 c2 c3 c4 d0 : Value) (u : TypeId) (pv : Value) (older : List PanicEntry) (w : World) (h0 : w.cell? ⟨R1, 0, none⟩ = some c0) (h1 : w.cell? ⟨R1, 1, none⟩ = some c1) (h2 : w.cell? ⟨R1, 2, none⟩ = some c2) (h3 : w.cell? ⟨R1, 3, none⟩ = some c3) (h4 : w.cell? ⟨R1, 4, none⟩ = some c4) (h5 : w.cell? ⟨R2, 0, none⟩ = some d0) (z0 : w.frozen? ⟨R1, 0, none⟩ = false) (z1 : w.frozen? ⟨R1, 1, none⟩ = false) (z2 : w.frozen? ⟨R1, 2, none⟩ = false) (z3 : w.frozen? ⟨R1, 3, none⟩ = false) (z4 : w.frozen? ⟨R1, 4, none⟩ = false) (z5 : w.frozen? ⟨R2, 0, none⟩ = false) (hne : ¬ R2 = R1) :
    CallsD Tryd.prog 25 #[.pointer (some ⟨R1, 0, none⟩), .pointer (some ⟨R2, 0, none⟩)] (.panicking ({ v := .iface u pv, recovered := false } :: older)) w fun e u' w' =>
      e = .returned (.tuple #[]) ∧ u' = .panicking ({ v := .iface u pv, recovered := true } :: older) ∧ w' = (((((w.setCell ⟨R1, 0, none⟩ (.int .i64 0)).setCell ⟨R1, 1, none⟩ (.string ByteArray.empty)).setCell ⟨R1, 2, none⟩ (.string ByteArray.empty)).setCell ⟨R1, 3, none⟩ (.int .i64 0)).setCell ⟨R1, 4, none⟩ (.slice none 0 0)).setCell ⟨R2, 0, none⟩ (.bool false) := by
  refine callsD_of_wpS Tryd.func25 rfl fun c₀ cs hu => ?_
  apply wpS_seq
  apply wpS_region
  simp [wpOpsS, go_sem, recoverD, hu, Tryd.ntmps25, Exit.thenS]
  refine wpS_cond (t := true) (by simp [Act.eval, Array.replicate]) ?_
  simp only [if_true]
  apply wpS_region
  simp [wpOpsS, go_sem, h0, h1, h2, h3, h4, h5, z0, z1, z2, z3, z4, z5, bodyPostS, results, Tryd.results25]
  rfl
set_option maxRecDepth 100000 in
theorem catchR_idle (p q : Value) (w : World) :
    CallsD Tryd.prog 25 #[p, q] .returning w fun e u' w' => e = .returned (.tuple #[]) ∧ u' = .returning ∧ w' = w := by
  refine callsD_of_wpS Tryd.func25 rfl fun c₀ cs hu => ?_
  apply wpS_seq
  apply wpS_region
  simp [wpOpsS, go_sem, recoverD, hu, Tryd.ntmps25, Exit.thenS]
  refine wpS_cond (t := false) (by simp [Act.eval, Array.replicate]) ?_
  simp only [Bool.false_eq_true, if_false]
  refine wpS_of_wp (wp_skip ?_)
  cases c₀
  simp_all [bodyPostS, results, Tryd.results25]

/-- What impl.DecodeRequest hands back. -/
def DecROut (s : ByteArray) (w : World) (e : Ending) (w' : World) : Prop :=
  ∃ av cap, e = .returned (.tuple #[.agg #[.int .i64 (decR s).1.kind, .string (decR s).1.tenant, .string (decR s).1.metric, .int .i64 (decR s).1.num, .slice av (decR s).1.smps.length cap], .bool (decR s).2]) ∧ SmpsOwn w' w.heap.size av (decR s).1.smps ∧ Below w.heap.size w w'

set_option maxRecDepth 100000 in
set_option maxHeartbeats 8000000 in
theorem implDecR_any (s : ByteArray) (w : World) (hs : s.size ≤ 1048576) (hT : ShTab w) : Calls Tryd.prog 11 #[.string s] w fun e w' => DecROut s w e w' := by
  have hmf : ∀ (fn : Fn) (first cap : Array Value) (w : World), (Instr.makeFunc fn first cap).run Tryd.prog w = .ok (.func fn first cap) w := fun _ _ _ _ => rfl
  have HBL : Hid (Below w.heap.size w (((w.alloc (.cells #[.int .i64 0, .string ByteArray.empty, .string ByteArray.empty, .int .i64 0, .slice none 0 0] 29)).alloc (.cells #[.bool false] 4)).alloc (.cells #[.string s, .bool false] 60))) := ((bnew _ _).trans ((bnew _ _).mono (by simp))).trans ((bnew _ _).mono (by simp; omega))
  have HBD : Hid (Calls Tryd.prog 26 #[.pointer (some ⟨w.heap.size + 1 + 1, 0, none⟩)] (((w.alloc (.cells #[.int .i64 0, .string ByteArray.empty, .string ByteArray.empty, .int .i64 0, .slice none 0 0] 29)).alloc (.cells #[.bool false] 4)).alloc (.cells #[.string s, .bool false] 60)) fun e w' => RqOut (w.heap.size + 1 + 1) s (((w.alloc (.cells #[.int .i64 0, .string ByteArray.empty, .string ByteArray.empty, .int .i64 0, .slice none 0 0] 29)).alloc (.cells #[.bool false] 4)).alloc (.cells #[.string s, .bool false] 60)) e w') :=
    reqD_any _ s _ ⟨_, by have := Blk.new ((w.alloc (.cells #[.int .i64 0, .string ByteArray.empty, .string ByteArray.empty, .int .i64 0, .slice none 0 0] 29)).alloc (.cells #[.bool false] 4)) #[.string s, .bool false] 60; simpa using this⟩ (by omega) (hT.later HBL.out) (by have := hT.1; omega)
  have HX1 : Hid (∀ w1, But (w.heap.size + 1 + 1) (((w.alloc (.cells #[.int .i64 0, .string ByteArray.empty, .string ByteArray.empty, .int .i64 0, .slice none 0 0] 29)).alloc (.cells #[.bool false] 4)).alloc (.cells #[.string s, .bool false] 60)) w1 → Blk w1 w.heap.size #[.int .i64 0, .string ByteArray.empty, .string ByteArray.empty, .int .i64 0, .slice none 0 0] 29 ∧ Blk w1 (w.heap.size + 1) #[.bool false] 4 ∧ Below w.heap.size w w1) := fun w1 hb1 =>
    ⟨Blk.but (((Blk.new _ _ _).alloc _).alloc _) hb1 (by omega), Blk.but (by have := (Blk.new (w.alloc (.cells #[.int .i64 0, .string ByteArray.empty, .string ByteArray.empty, .int .i64 0, .slice none 0 0] 29)) #[.bool false] 4).alloc (.cells #[.string s, .bool false] 60); simpa using this) hb1 (by omega), HBL.out.trans (hb1.below (by omega) (by simp; omega))⟩
  have hsz : (((w.alloc (.cells #[.int .i64 0, .string ByteArray.empty, .string ByteArray.empty, .int .i64 0, .slice none 0 0] 29)).alloc (.cells #[.bool false] 4)).alloc (.cells #[.string s, .bool false] 60)).heap.size = w.heap.size + 1 + 1 + 1 := by simp
  unfold RqOut at HBD
  rw [hsz] at HBD
  clear hsz
  by_cases hok : (1 ≤ (rqK s).1 ∧ (rqK s).1 ≤ 6) ∧ (rqN s).2.short = false
  rotate_left
  · have E : Hid (decR s = (⟨0, ByteArray.empty, ByteArray.empty, 0, []⟩, false)) := decR_no fun h => hok ⟨h.1, h.2.1⟩
    unfold DecROut
    rw [E.out]
    go_enter_defers Tryd.func11, Tryd.ntmps11
    go_wp2_with fail
    refine HBD.out.mono ?_
    rintro e w1 (⟨h, _⟩ | ⟨_, rfl, hb1⟩)
    · exact absurd h hok
    obtain ⟨X1, X2, B1⟩ := HX1.out w1 hb1
    refine leaves_cons (f := 25) (args := #[.pointer (some ⟨w.heap.size, 0, none⟩), .pointer (some ⟨w.heap.size + 1, 0, none⟩)]) (by simp) (by simp [go_sem]) ?_
    refine (catchR_panic w.heap.size (w.heap.size + 1) _ _ _ _ _ _ _ _ [] _ (X1.cell 0) (X1.cell 1) (X1.cell 2) (X1.cell 3) (X1.cell 4) (X2.cell 0) (X1.free 0) (X1.free 1) (X1.free 2) (X1.free 3) (X1.free 4) (X2.free 0) (by omega)).mono ?_
    rintro e u' w'' ⟨rfl, rfl, rfl⟩
    have y0 : w1.cell? ⟨w.heap.size, 0, none⟩ = some (.int .i64 0) := X1.cell 0
    have y1 : w1.cell? ⟨w.heap.size, 1, none⟩ = some (.string ByteArray.empty) := X1.cell 1
    have y2 : w1.cell? ⟨w.heap.size, 2, none⟩ = some (.string ByteArray.empty) := X1.cell 2
    have y3 : w1.cell? ⟨w.heap.size, 3, none⟩ = some (.int .i64 0) := X1.cell 3
    have y4 : w1.cell? ⟨w.heap.size, 4, none⟩ = some (.slice none 0 0) := X1.cell 4
    have y5 : w1.cell? ⟨w.heap.size + 1, 0, none⟩ = some (.bool false) := X2.cell 0
    simp [Leaves, settle, results, Tryd.results11, go_sem, y0, y1, y2, y3, y4, y5]
    exact ⟨Or.inl rfl, ((((((B1.setCell (by simp) _).setCell (by simp) _).setCell (by simp) _).setCell (by simp) _).setCell (by simp) _).setCell (by simp) _)⟩
  have HEN : Hid (∀ W av cap, SmpsIn W av (rqS s).1 → ShTab W → Calls Tryd.prog 8 #[.agg #[.int .i64 ((rqK s).1 : Nat), .string (rqT s).1, .string (rqM s).1, .int .i64 (rqN s).1, .slice av (rqS s).1.length cap]] W fun e w' => e = .returned (.string (reqB (rqR s))) ∧ Below W.heap.size W w') := fun W av cap h h2 => implReq_any (rqR s) av cap W h (Nat.le_trans (rq_bulk hok.2) hs) h2
  have HTB : Hid (∀ W, Below w.heap.size w W → ShTab W) := fun W h => hT.later h
  by_cases heq : reqB (rqR s) = s
  · have E : Hid (decR s = (rqR s, true)) := decR_yes ⟨hok.1, hok.2, heq⟩
    unfold DecROut
    rw [E.out]
    rw [heq] at HEN
    clear heq
    unfold rqR
    simp only
    have HBD2 : Hid (Calls Tryd.prog 26 #[.pointer (some ⟨w.heap.size + 1 + 1, 0, none⟩)] (((w.alloc (.cells #[.int .i64 0, .string ByteArray.empty, .string ByteArray.empty, .int .i64 0, .slice none 0 0] 29)).alloc (.cells #[.bool false] 4)).alloc (.cells #[.string s, .bool false] 60)) fun e w' => ∃ av cap, e = .returned (.agg #[.int .i64 ((rqK s).1 : Nat), .string (rqT s).1, .string (rqM s).1, .int .i64 (rqN s).1, .slice av (rqS s).1.length cap]) ∧ SmpsOwn w' (w.heap.size + 1 + 1 + 1) av (rqS s).1 ∧ But (w.heap.size + 1 + 1) (((w.alloc (.cells #[.int .i64 0, .string ByteArray.empty, .string ByteArray.empty, .int .i64 0, .slice none 0 0] 29)).alloc (.cells #[.bool false] 4)).alloc (.cells #[.string s, .bool false] 60)) w') := HBD.out.mono fun e w' h => h.elim (fun q => q.2) (fun q => absurd hok q.1)
    clear HBD hok E
    generalize (((rqK s).1 : Nat) : Int) = K at *
    generalize (rqT s).1 = te at *
    generalize (rqM s).1 = me at *
    generalize (rqN s).1 = nu at *
    generalize (rqS s).1 = xs at *
    go_enter_defers Tryd.func11, Tryd.ntmps11
    go_wp2_with fail
    refine HBD2.out.mono ?_
    rintro e w1 ⟨av, cap, rfl, ho1, hb1⟩
    obtain ⟨X1', X2', B1'⟩ := HX1.out w1 hb1
    have X1 := hid X1'
    have X2 := hid X2'
    have B1 := hid B1'
    have O1 := hid ho1
    clear X1' X2' B1' ho1 hb1 HBD2 HX1 HBL
    have y0 : w1.cell? ⟨w.heap.size, 0, none⟩ = some (.int .i64 0) := X1.out.cell 0
    have f0 := X1.out.free 0
    have y1 : w1.cell? ⟨w.heap.size, 1, none⟩ = some (.string ByteArray.empty) := X1.out.cell 1
    have f1 := X1.out.free 1
    have y2 : w1.cell? ⟨w.heap.size, 2, none⟩ = some (.string ByteArray.empty) := X1.out.cell 2
    have f2 := X1.out.free 2
    have y3 : w1.cell? ⟨w.heap.size, 3, none⟩ = some (.int .i64 0) := X1.out.cell 3
    have f3 := X1.out.free 3
    have y4 : w1.cell? ⟨w.heap.size, 4, none⟩ = some (.slice none 0 0) := X1.out.cell 4
    have f4 := X1.out.free 4
    go_wp2_with fail
    have X3 : Hid (Blk ((((((w1.setCell ⟨w.heap.size, 0, none⟩ (.int .i64 K)).setCell ⟨w.heap.size, 1, none⟩ (.string te)).setCell ⟨w.heap.size, 2, none⟩ (.string me)).setCell ⟨w.heap.size, 3, none⟩ (.int .i64 nu)).setCell ⟨w.heap.size, 4, none⟩ (.slice av xs.length cap))) w.heap.size #[.int .i64 K, .string te, .string me, .int .i64 nu, .slice av xs.length cap] 29) := hid (by have := (((((X1.out.set 0 (.int .i64 K)).set 1 (.string te)).set 2 (.string me)).set 3 (.int .i64 nu)).set 4 (.slice av xs.length cap)); simpa using this)
    have Y3 : Hid (Blk ((((((w1.setCell ⟨w.heap.size, 0, none⟩ (.int .i64 K)).setCell ⟨w.heap.size, 1, none⟩ (.string te)).setCell ⟨w.heap.size, 2, none⟩ (.string me)).setCell ⟨w.heap.size, 3, none⟩ (.int .i64 nu)).setCell ⟨w.heap.size, 4, none⟩ (.slice av xs.length cap))) (w.heap.size + 1) #[.bool false] 4) := hid (((((X2.out.but ((But.refl w.heap.size _).setCell 0 _) (by omega)).but ((But.refl w.heap.size _).setCell 1 _) (by omega)).but ((But.refl w.heap.size _).setCell 2 _) (by omega)).but ((But.refl w.heap.size _).setCell 3 _) (by omega)).but ((But.refl w.heap.size _).setCell 4 _) (by omega))
    have B3 : Hid (Below w.heap.size w ((((((w1.setCell ⟨w.heap.size, 0, none⟩ (.int .i64 K)).setCell ⟨w.heap.size, 1, none⟩ (.string te)).setCell ⟨w.heap.size, 2, none⟩ (.string me)).setCell ⟨w.heap.size, 3, none⟩ (.int .i64 nu)).setCell ⟨w.heap.size, 4, none⟩ (.slice av xs.length cap)))) := hid (((((B1.out.setCell (by simp) _).setCell (by simp) _).setCell (by simp) _).setCell (by simp) _).setCell (by simp) _)
    have O3 : Hid (SmpsOwn ((((((w1.setCell ⟨w.heap.size, 0, none⟩ (.int .i64 K)).setCell ⟨w.heap.size, 1, none⟩ (.string te)).setCell ⟨w.heap.size, 2, none⟩ (.string me)).setCell ⟨w.heap.size, 3, none⟩ (.int .i64 nu)).setCell ⟨w.heap.size, 4, none⟩ (.slice av xs.length cap))) (w.heap.size + 1 + 1 + 1) av xs) := hid (((((O1.out.but ((But.refl w.heap.size _).setCell 0 _) (by omega)).but ((But.refl w.heap.size _).setCell 1 _) (by omega)).but ((But.refl w.heap.size _).setCell 2 _) (by omega)).but ((But.refl w.heap.size _).setCell 3 _) (by omega)).but ((But.refl w.heap.size _).setCell 4 _) (by omega))
    clear X1 X2 B1 O1 y0 y1 y2 y3 y4 f0 f1 f2 f3 f4
    generalize (((((w1.setCell ⟨w.heap.size, 0, none⟩ (.int .i64 K)).setCell ⟨w.heap.size, 1, none⟩ (.string te)).setCell ⟨w.heap.size, 2, none⟩ (.string me)).setCell ⟨w.heap.size, 3, none⟩ (.int .i64 nu)).setCell ⟨w.heap.size, 4, none⟩ (.slice av xs.length cap)) = W2 at *
    have x0 : W2.cell? ⟨w.heap.size, 0, none⟩ = some (.int .i64 K) := X3.out.cell 0
    have x1 : W2.cell? ⟨w.heap.size, 1, none⟩ = some (.string te) := X3.out.cell 1
    have x2 : W2.cell? ⟨w.heap.size, 2, none⟩ = some (.string me) := X3.out.cell 2
    have x3 : W2.cell? ⟨w.heap.size, 3, none⟩ = some (.int .i64 nu) := X3.out.cell 3
    have x4 : W2.cell? ⟨w.heap.size, 4, none⟩ = some (.slice av xs.length cap) := X3.out.cell 4
    try go_wp2_with fail
    refine (HEN.out _ _ _ O3.out.smps (HTB.out _ B3.out)).mono ?_
    rintro e w3 ⟨rfl, hb3⟩
    have X4 := hid (X3.out.later hb3)
    have Y4 := hid (Y3.out.later hb3)
    have B4 := hid (bto B3.out hb3)
    have O4 := hid (O3.out.later hb3)
    clear X3 Y3 B3 O3 hb3 HEN x0 x1 x2 x3 x4
    have x0 : w3.cell? ⟨w.heap.size, 0, none⟩ = some (.int .i64 K) := X4.out.cell 0
    have f0 := X4.out.free 0
    have x1 : w3.cell? ⟨w.heap.size, 1, none⟩ = some (.string te) := X4.out.cell 1
    have f1 := X4.out.free 1
    have x2 : w3.cell? ⟨w.heap.size, 2, none⟩ = some (.string me) := X4.out.cell 2
    have f2 := X4.out.free 2
    have x3 : w3.cell? ⟨w.heap.size, 3, none⟩ = some (.int .i64 nu) := X4.out.cell 3
    have f3 := X4.out.free 3
    have x4 : w3.cell? ⟨w.heap.size, 4, none⟩ = some (.slice av xs.length cap) := X4.out.cell 4
    have f4 := X4.out.free 4
    have x5 : w3.cell? ⟨w.heap.size + 1, 0, none⟩ = some (.bool false) := Y4.out.cell 0
    have f5 := Y4.out.free 0
    go_wp2_with fail
    refine (must_ok _ _).mono ?_
    rintro e w4 ⟨rfl, hw⟩
    replace hw := hw.symm
    subst hw
    go_wp2
    refine leaves_cons (f := 25) (args := #[.pointer (some ⟨w.heap.size, 0, none⟩), .pointer (some ⟨w.heap.size + 1, 0, none⟩)]) (by simp) (by simp [go_sem]) ?_
    refine (catchR_idle _ _ _).mono ?_
    rintro e u' w'' ⟨rfl, rfl, rfl⟩
    simp [Leaves, settle, results, Tryd.results11, go_sem, x0, x1, x2, x3, x4, x5]
    exact ⟨((((((O4.out.but ((But.refl w.heap.size _).setCell 0 _) (by omega)).but ((But.refl w.heap.size _).setCell 1 _) (by omega)).but ((But.refl w.heap.size _).setCell 2 _) (by omega)).but ((But.refl w.heap.size _).setCell 3 _) (by omega)).but ((But.refl w.heap.size _).setCell 4 _) (by omega)).but ((But.refl (w.heap.size + 1) _).setCell 0 _) (by omega)).mono (by omega), ((((((B4.out.setCell (by simp) _).setCell (by simp) _).setCell (by simp) _).setCell (by simp) _).setCell (by simp) _).setCell (by simp) _)⟩
  · have E : Hid (decR s = (⟨0, ByteArray.empty, ByteArray.empty, 0, []⟩, false)) := decR_no fun h => heq h.2.2
    unfold DecROut
    rw [E.out]
    have hne : ((reqB (rqR s)).toList == s.toList) = false := by
      apply Bool.eq_false_iff.2
      intro h
      apply heq
      apply bext
      have := eq_of_beq h
      rw [ByteArray.toList_eq, ByteArray.toList_eq] at this
      exact this
    clear heq
    generalize reqB (rqR s) = EB at *
    have HBD2 : Hid (Calls Tryd.prog 26 #[.pointer (some ⟨w.heap.size + 1 + 1, 0, none⟩)] (((w.alloc (.cells #[.int .i64 0, .string ByteArray.empty, .string ByteArray.empty, .int .i64 0, .slice none 0 0] 29)).alloc (.cells #[.bool false] 4)).alloc (.cells #[.string s, .bool false] 60)) fun e w' => ∃ av cap, e = .returned (.agg #[.int .i64 ((rqK s).1 : Nat), .string (rqT s).1, .string (rqM s).1, .int .i64 (rqN s).1, .slice av (rqS s).1.length cap]) ∧ SmpsOwn w' (w.heap.size + 1 + 1 + 1) av (rqS s).1 ∧ But (w.heap.size + 1 + 1) (((w.alloc (.cells #[.int .i64 0, .string ByteArray.empty, .string ByteArray.empty, .int .i64 0, .slice none 0 0] 29)).alloc (.cells #[.bool false] 4)).alloc (.cells #[.string s, .bool false] 60)) w') := HBD.out.mono fun e w' h => h.elim (fun q => q.2) (fun q => absurd hok q.1)
    clear HBD hok E
    generalize (((rqK s).1 : Nat) : Int) = K at *
    generalize (rqT s).1 = te at *
    generalize (rqM s).1 = me at *
    generalize (rqN s).1 = nu at *
    generalize (rqS s).1 = xs at *
    go_enter_defers Tryd.func11, Tryd.ntmps11
    go_wp2_with fail
    refine HBD2.out.mono ?_
    rintro e w1 ⟨av, cap, rfl, ho1, hb1⟩
    obtain ⟨X1', X2', B1'⟩ := HX1.out w1 hb1
    have X1 := hid X1'
    have X2 := hid X2'
    have B1 := hid B1'
    have O1 := hid ho1
    clear X1' X2' B1' ho1 hb1 HBD2 HX1 HBL
    have y0 : w1.cell? ⟨w.heap.size, 0, none⟩ = some (.int .i64 0) := X1.out.cell 0
    have f0 := X1.out.free 0
    have y1 : w1.cell? ⟨w.heap.size, 1, none⟩ = some (.string ByteArray.empty) := X1.out.cell 1
    have f1 := X1.out.free 1
    have y2 : w1.cell? ⟨w.heap.size, 2, none⟩ = some (.string ByteArray.empty) := X1.out.cell 2
    have f2 := X1.out.free 2
    have y3 : w1.cell? ⟨w.heap.size, 3, none⟩ = some (.int .i64 0) := X1.out.cell 3
    have f3 := X1.out.free 3
    have y4 : w1.cell? ⟨w.heap.size, 4, none⟩ = some (.slice none 0 0) := X1.out.cell 4
    have f4 := X1.out.free 4
    go_wp2_with fail
    have X3 : Hid (Blk ((((((w1.setCell ⟨w.heap.size, 0, none⟩ (.int .i64 K)).setCell ⟨w.heap.size, 1, none⟩ (.string te)).setCell ⟨w.heap.size, 2, none⟩ (.string me)).setCell ⟨w.heap.size, 3, none⟩ (.int .i64 nu)).setCell ⟨w.heap.size, 4, none⟩ (.slice av xs.length cap))) w.heap.size #[.int .i64 K, .string te, .string me, .int .i64 nu, .slice av xs.length cap] 29) := hid (by have := (((((X1.out.set 0 (.int .i64 K)).set 1 (.string te)).set 2 (.string me)).set 3 (.int .i64 nu)).set 4 (.slice av xs.length cap)); simpa using this)
    have Y3 : Hid (Blk ((((((w1.setCell ⟨w.heap.size, 0, none⟩ (.int .i64 K)).setCell ⟨w.heap.size, 1, none⟩ (.string te)).setCell ⟨w.heap.size, 2, none⟩ (.string me)).setCell ⟨w.heap.size, 3, none⟩ (.int .i64 nu)).setCell ⟨w.heap.size, 4, none⟩ (.slice av xs.length cap))) (w.heap.size + 1) #[.bool false] 4) := hid (((((X2.out.but ((But.refl w.heap.size _).setCell 0 _) (by omega)).but ((But.refl w.heap.size _).setCell 1 _) (by omega)).but ((But.refl w.heap.size _).setCell 2 _) (by omega)).but ((But.refl w.heap.size _).setCell 3 _) (by omega)).but ((But.refl w.heap.size _).setCell 4 _) (by omega))
    have B3 : Hid (Below w.heap.size w ((((((w1.setCell ⟨w.heap.size, 0, none⟩ (.int .i64 K)).setCell ⟨w.heap.size, 1, none⟩ (.string te)).setCell ⟨w.heap.size, 2, none⟩ (.string me)).setCell ⟨w.heap.size, 3, none⟩ (.int .i64 nu)).setCell ⟨w.heap.size, 4, none⟩ (.slice av xs.length cap)))) := hid (((((B1.out.setCell (by simp) _).setCell (by simp) _).setCell (by simp) _).setCell (by simp) _).setCell (by simp) _)
    have O3 : Hid (SmpsOwn ((((((w1.setCell ⟨w.heap.size, 0, none⟩ (.int .i64 K)).setCell ⟨w.heap.size, 1, none⟩ (.string te)).setCell ⟨w.heap.size, 2, none⟩ (.string me)).setCell ⟨w.heap.size, 3, none⟩ (.int .i64 nu)).setCell ⟨w.heap.size, 4, none⟩ (.slice av xs.length cap))) (w.heap.size + 1 + 1 + 1) av xs) := hid (((((O1.out.but ((But.refl w.heap.size _).setCell 0 _) (by omega)).but ((But.refl w.heap.size _).setCell 1 _) (by omega)).but ((But.refl w.heap.size _).setCell 2 _) (by omega)).but ((But.refl w.heap.size _).setCell 3 _) (by omega)).but ((But.refl w.heap.size _).setCell 4 _) (by omega))
    clear X1 X2 B1 O1 y0 y1 y2 y3 y4 f0 f1 f2 f3 f4
    generalize (((((w1.setCell ⟨w.heap.size, 0, none⟩ (.int .i64 K)).setCell ⟨w.heap.size, 1, none⟩ (.string te)).setCell ⟨w.heap.size, 2, none⟩ (.string me)).setCell ⟨w.heap.size, 3, none⟩ (.int .i64 nu)).setCell ⟨w.heap.size, 4, none⟩ (.slice av xs.length cap)) = W2 at *
    have x0 : W2.cell? ⟨w.heap.size, 0, none⟩ = some (.int .i64 K) := X3.out.cell 0
    have x1 : W2.cell? ⟨w.heap.size, 1, none⟩ = some (.string te) := X3.out.cell 1
    have x2 : W2.cell? ⟨w.heap.size, 2, none⟩ = some (.string me) := X3.out.cell 2
    have x3 : W2.cell? ⟨w.heap.size, 3, none⟩ = some (.int .i64 nu) := X3.out.cell 3
    have x4 : W2.cell? ⟨w.heap.size, 4, none⟩ = some (.slice av xs.length cap) := X3.out.cell 4
    try go_wp2_with fail
    refine (HEN.out _ _ _ O3.out.smps (HTB.out _ B3.out)).mono ?_
    rintro e w3 ⟨rfl, hb3⟩
    have X4 := hid (X3.out.later hb3)
    have Y4 := hid (Y3.out.later hb3)
    have B4 := hid (bto B3.out hb3)
    have O4 := hid (O3.out.later hb3)
    clear X3 Y3 B3 O3 hb3 HEN x0 x1 x2 x3 x4
    have x0 : w3.cell? ⟨w.heap.size, 0, none⟩ = some (.int .i64 K) := X4.out.cell 0
    have f0 := X4.out.free 0
    have x1 : w3.cell? ⟨w.heap.size, 1, none⟩ = some (.string te) := X4.out.cell 1
    have f1 := X4.out.free 1
    have x2 : w3.cell? ⟨w.heap.size, 2, none⟩ = some (.string me) := X4.out.cell 2
    have f2 := X4.out.free 2
    have x3 : w3.cell? ⟨w.heap.size, 3, none⟩ = some (.int .i64 nu) := X4.out.cell 3
    have f3 := X4.out.free 3
    have x4 : w3.cell? ⟨w.heap.size, 4, none⟩ = some (.slice av xs.length cap) := X4.out.cell 4
    have f4 := X4.out.free 4
    have x5 : w3.cell? ⟨w.heap.size + 1, 0, none⟩ = some (.bool false) := Y4.out.cell 0
    have f5 := Y4.out.free 0
    go_wp2_with fail
    refine (must_bad _ _).mono ?_
    rintro e w4 ⟨rfl, hw⟩
    replace hw := hw.symm
    subst hw
    refine leaves_cons (f := 25) (args := #[.pointer (some ⟨w.heap.size, 0, none⟩), .pointer (some ⟨w.heap.size + 1, 0, none⟩)]) (by simp) (by simp [go_sem]) ?_
    refine (catchR_panic w.heap.size (w.heap.size + 1) _ _ _ _ _ _ _ _ [] _ x0 x1 x2 x3 x4 x5 f0 f1 f2 f3 f4 f5 (by omega)).mono ?_
    rintro e u' w'' ⟨rfl, rfl, rfl⟩
    simp [Leaves, settle, results, Tryd.results11, go_sem, x0, x1, x2, x3, x4, x5]
    exact ⟨Or.inl rfl, ((((((B4.out.setCell (by simp) _).setCell (by simp) _).setCell (by simp) _).setCell (by simp) _).setCell (by simp) _).setCell (by simp) _)⟩
end Go.Proofs.YtoecnlhnfhongaaDoor

namespace Go.Proofs.YtoecnlhnfhongaaDoor
open Go.RowKit

set_option maxHeartbeats 1000000 in
theorem specGet_any (s : ByteArray) (p n : Nat) (w : World) (hs : s.size ≤ maxLen) (h : p + n ≤ s.size) (hn : n ≤ 7) :
    Calls Tryd.prog 46 #[.string s, .int .i64 p, .int .i64 n] w fun e w' => e = .returned (.int .i64 (beL (sectL s p n) : Nat)) ∧ w' = w := by
  unfold maxLen at hs
  go_enter Tryd.func46, Tryd.ntmps46
  go_wp2
  go_loop [7, 8] (fun v i => ∃ (k V : Nat), k ≤ n ∧ i = .int .i64 k ∧ v = .int .i64 V ∧ Hid (V = beL (sectL s p k))) (fun _ i => n - (intOf i).toNat)
  case atStart => exact ⟨0, 0, Nat.zero_le _, rfl, rfl, rfl⟩
  case round =>
    obtain ⟨k, V, hk, rfl, rfl, hV⟩ := hrel
    have hlt64 : V < 72057594037927936 := by
      have h1 := beL_lt (sectL s p k)
      rw [sectL_length (by omega), ← hV.out] at h1
      have h2 : 256 ^ k ≤ 256 ^ 7 := Nat.pow_le_pow_right (by omega) (by omega)
      omega
    by_cases hlt : k < n
    · have hV7 : V * 256 + 255 < 9223372036854775807 := by
        have h1 := beL_lt (sectL s p k)
        rw [sectL_length (by omega), ← hV.out] at h1
        have h2 : 256 ^ k ≤ 256 ^ 6 := Nat.pow_le_pow_right (by omega) (by omega)
        omega
      have hi0 : (0 : Int) ≤ (p : Int) + (k : Int) := by omega
      have hi1 : (p : Int) + (k : Int) < (s.size : Int) := by omega
      have hi2 : p + k < s.size := by omega
      have hU := s[p + k].toNat_lt
      go_wp2
      exact ⟨⟨k + 1, V * 256 + s[p + k].toNat, by omega, by go_num, by go_num, by show _ = _; rw [sectL_snoc hi2, beL_snoc, hV.out]⟩, by simp [intOf]; omega⟩
    · go_wp2
      go_ret
      have e : k = n := by omega
      subst e
      exact ⟨ret_int (by rw [hV.out]), rfl⟩
end Go.Proofs.YtoecnlhnfhongaaDoor

namespace Go.Proofs.YtoecnlhnfhongaaDoor
open Go.RowKit

def partZ (s : ByteArray) (p n : Nat) : Nat := beL (sectL s p n)
/-- The part of s at p: its length in n bytes, then its bytes; and the place behind it. -/
def partN (s : ByteArray) (p n : Nat) : Option (ByteArray × Nat) := if p + n ≤ s.size ∧ p + n + partZ s p n ≤ s.size then some (s.extract (p + n) (p + n + partZ s p n), p + n + partZ s p n) else none

theorem ret_part {t u : ByteArray} {a b : Int} (h1 : t = u) (h2 : a = b) : Ending.returned (.tuple #[.string t, .int .i64 a]) = .returned (.tuple #[.string u, .int .i64 b]) := by rw [h1, h2]
theorem specPart_neg (s : ByteArray) (n : Nat) (w : World) :
    Calls Tryd.prog 24 #[.string s, .int .i64 (-1), .int .i64 (n : Nat)] w fun e w' => e = .returned (.tuple #[.string ByteArray.empty, .int .i64 (-1)]) ∧ w' = w := by
  go_enter Tryd.func24, Tryd.ntmps24
  go_wp2
  go_ret2
  exact ⟨rfl, rfl⟩
set_option maxRecDepth 100000 in
set_option maxHeartbeats 1000000 in
theorem specPart_none (s : ByteArray) (p n : Nat) (w : World) (hs : s.size ≤ 1000000000) (hp : p ≤ 1000000000) (hn : n ≤ 2) (h : partN s p n = none) :
    Calls Tryd.prog 24 #[.string s, .int .i64 (p : Nat), .int .i64 (n : Nat)] w fun e w' => e = .returned (.tuple #[.string ByteArray.empty, .int .i64 (-1)]) ∧ w' = w := by
  by_cases h1 : p + n ≤ s.size
  · have HG : Hid (∀ W, Calls Tryd.prog 46 #[.string s, .int .i64 (p : Nat), .int .i64 (n : Nat)] W fun e w' => e = .returned (.int .i64 (partZ s p n : Nat)) ∧ w' = W) := fun W => specGet_any s p n W (by unfold maxLen; omega) h1 (by omega)
    have h2 : ¬ p + n + partZ s p n ≤ s.size := fun h2 => by
      unfold partN at h
      rw [if_pos ⟨h1, h2⟩] at h
      exact absurd h (by simp)
    have hz : partZ s p n < 65536 := by
      have h3 := beL_lt (sectL s p n)
      rw [sectL_length h1] at h3
      have h4 : 256 ^ n ≤ 256 ^ 2 := Nat.pow_le_pow_right (by omega) hn
      unfold partZ
      omega
    clear h
    generalize partZ s p n = Z at *
    go_enter Tryd.func24, Tryd.ntmps24
    go_wp2_with fail
    refine (HG.out _).mono ?_
    rintro e w1 ⟨rfl, hw⟩
    replace hw := hw.symm
    subst hw
    go_wp2
    go_ret2
    exact ⟨rfl, rfl⟩
  · clear h
    go_enter Tryd.func24, Tryd.ntmps24
    go_wp2
    go_ret2
    exact ⟨rfl, rfl⟩
set_option maxRecDepth 100000 in
set_option maxHeartbeats 1000000 in
theorem specPart_some (s : ByteArray) (p n : Nat) (t : ByteArray) (q : Nat) (w : World) (hs : s.size ≤ 1000000000) (hn : n ≤ 2) (h : partN s p n = some (t, q)) :
    Calls Tryd.prog 24 #[.string s, .int .i64 (p : Nat), .int .i64 (n : Nat)] w fun e w' => e = .returned (.tuple #[.string t, .int .i64 (q : Nat)]) ∧ w' = w := by
  unfold partN at h
  split at h
  · rename_i hh
    obtain ⟨h1, h2⟩ := hh
    simp only [Option.some.injEq, Prod.mk.injEq] at h
    have HG : Hid (∀ W, Calls Tryd.prog 46 #[.string s, .int .i64 (p : Nat), .int .i64 (n : Nat)] W fun e w' => e = .returned (.int .i64 (partZ s p n : Nat)) ∧ w' = W) := fun W => specGet_any s p n W (by unfold maxLen; omega) h1 (by omega)
    have HT : Hid (s.extract (p + n) (p + n + partZ s p n) = t ∧ p + n + partZ s p n = q) := h
    clear h
    generalize partZ s p n = Z at *
    go_enter Tryd.func24, Tryd.ntmps24
    go_wp2_with fail
    refine (HG.out _).mono ?_
    rintro e w1 ⟨rfl, hw⟩
    replace hw := hw.symm
    subst hw
    go_wp2
    go_ret2
    exact ⟨ret_part HT.out.1 (by rw [← HT.out.2]; go_num), rfl⟩
  · exact absurd h (by simp)
theorem part_at {s t : ByteArray} {n p : Nat} {pre post : List UInt8} (h : s.data.toList = pre ++ ((numS n (t.size : Nat)).data.toList ++ (t.data.toList ++ post))) (hp : pre.length = p) (ht : t.size < 256 ^ n) : partN s p n = some (t, p + n + t.size) := by
  have hnz : (numS n (t.size : Nat)).data.toList.length = n := by rw [← bsize]; exact numS_size n _
  have hz : partZ s p n = t.size := by
    unfold partZ sectL
    rw [h, ← hp, List.drop_left]
    have e : ((numS n (t.size : Nat)).data.toList ++ (t.data.toList ++ post)).take n = (numS n (t.size : Nat)).data.toList := List.take_left' hnz
    rw [e]
    exact be_numS n t.size ht
  have hsz : s.size = p + n + t.size + post.length := by
    rw [bsize, h]
    simp only [List.length_append]
    rw [hp, hnz, ← bsize]
    omega
  unfold partN
  rw [hz, if_pos ⟨by omega, by omega⟩]
  congr 2
  apply bext
  rw [blist_extract, h, ← List.append_assoc, ← List.append_assoc]
  have hl : (pre ++ (numS n (t.size : Nat)).data.toList).length = p + n := by rw [List.length_append, hp, hnz]
  have hl2 : (pre ++ (numS n (t.size : Nat)).data.toList ++ t.data.toList).length = p + n + t.size := by rw [List.length_append, hl, ← bsize]
  rw [List.take_left' hl2, List.drop_left' hl]
theorem part_le {s : ByteArray} {p n : Nat} {t : ByteArray} {q : Nat} (h : partN s p n = some (t, q)) : q ≤ s.size ∧ t.size ≤ s.size ∧ p + n ≤ q := by
  unfold partN at h
  split at h
  · rename_i hh
    simp only [Option.some.injEq, Prod.mk.injEq] at h
    obtain ⟨rfl, rfl⟩ := h
    refine ⟨hh.2, ?_, by omega⟩
    simp
    omega
  · exact absurd h (by simp)
end Go.Proofs.YtoecnlhnfhongaaDoor

