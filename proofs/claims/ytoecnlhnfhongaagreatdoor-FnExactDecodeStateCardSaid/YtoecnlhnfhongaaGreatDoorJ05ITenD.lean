import Derived.Test.YtoecnlhnfhongaaGreatDoorProg
import Derived.Test.YtoecnlhnfhongaaGreatDoorJ02BatL
import Derived.Test.YtoecnlhnfhongaaGreatDoorJ04AppA
import Derived.Deep.RegionHeld3
import Derived.Deep.DeepCutAuto
import Derived.Deep.RegionLaw
import Derived.Deep.AppendLies
namespace Go.Proofs.YtoecnlhnfhongaaGreatDoor
open Go.RowKit

def flatQ (ps : List PairD) : List Value := ps.flatMap fun x => [.string x.s, .int .i64 x.n]
theorem flatQ_append (a b : List PairD) : flatQ (a ++ b) = flatQ a ++ flatQ b := by simp [flatQ]
theorem info_mlP : ∃ i, Tryz.prog.info? 43 = some i ∧ i.zero = some (.agg #[.string ⟨#[]⟩, .int .i64 0]) ∧ i.size = 2 ∧ i.bytes = 24 := by
  have h : (Tryz.prog.info? 43).map (fun i => (i.zero, i.size, i.bytes)) = some (some (.agg #[.string ⟨#[]⟩, .int .i64 0]), 2, 24) := by kernel_rfl
  obtain ⟨i, hi, hz⟩ := Option.map_eq_some_iff.1 h
  simp only [Prod.mk.injEq] at hz
  exact ⟨i, hi, hz.1, hz.2.1, hz.2.2⟩
theorem info_srP : ∃ i, Tryz.prog.info? 45 = some i ∧ i.zero = some (.agg #[.string ⟨#[]⟩, .int .i64 0]) ∧ i.size = 2 ∧ i.bytes = 24 := by
  have h : (Tryz.prog.info? 45).map (fun i => (i.zero, i.size, i.bytes)) = some (some (.agg #[.string ⟨#[]⟩, .int .i64 0]), 2, 24) := by kernel_rfl
  obtain ⟨i, hi, hz⟩ := Option.map_eq_some_iff.1 h
  simp only [Prod.mk.injEq] at hz
  exact ⟨i, hi, hz.1, hz.2.1, hz.2.2⟩
theorem RT.laterD {w w' : World} {B : Nat} {r : Rd} (h : RT w B r) (hb : Below w.heap.size w w') : RT w' B r := by
  obtain ⟨t, h⟩ := h
  exact ⟨t, h.later hb⟩
/-- A call of a function of the program's own, at a step of a region that draws its order. -/
theorem step_enterD {P : Program} {w : World} {ops : Array Oper} {o : Oper} {a : Act} {K : Act → World → Prop} {Q : Exit → Act → World → Prop} {E : Prop} {f : FuncId} {args : Array Value} (hgd : o.guard = none) (hx : (execOp a.eval o).run P w = .ok (.enter f args) w)
    (h : Calls P f args w (fun e w' => ∃ v, e = .returned v ∧ K (a.put o.dst v) w')) : if Region.wanted o (yielded ops a.tmps) = true then Oper.wp P o a w K Q else E := by
  have hw : Region.wanted o (yielded ops a.tmps) = true := by simp [Region.wanted, hgd]
  rw [if_pos hw]
  unfold Oper.wp
  rw [hx]
  refine h.mono ?_
  rintro e w' ⟨v, rfl, hK⟩
  exact hK
theorem But.upToD {g : Nat} {w w1 w2 : World} (h : But g w w1) (hb : Below w.heap.size w1 w2) : But g w w2 :=
  ⟨hb.os.trans h.os, hb.tape.trans h.tape, hb.output.trans h.output, Nat.le_trans h.size hb.size, fun k hk hn => (hb.block k hk).trans (h.block k hk hn)⟩
theorem ButDrewD {g : Nat} {a w : World} (h : But g a w) : But g a w.drew := ⟨h.os, h.tape, h.output, h.size, h.block⟩
theorem row_formT {W : World} {B : Nat} {e : TypeId} {size : Nat} {v : Value} {n : Nat} {xs : List Value} (h : W.ownsRow B e size v n xs) : ∃ a c, v = .slice a n c := by
  rcases h.2 with ⟨rfl, rfl⟩ | ⟨g, cap, cur, rfl, _⟩
  · exact ⟨none, 0, rfl⟩
  · exact ⟨_, _, rfl⟩
theorem row_baseD {w : World} {B B' : Nat} {e : TypeId} {size : Nat} {v : Value} {n : Nat} {xs : List Value} (h : w.ownsRow B e size v n xs) (hB : B' ≤ B) : w.ownsRow B' e size v n xs := by
  refine ⟨h.1, ?_⟩
  rcases h.2 with h2 | ⟨g, cap, cur, h1, h2, h3⟩
  · exact Or.inl h2
  · exact Or.inr ⟨g, cap, cur, h1, Nat.le_trans hB h2, h3⟩
/-- The tenant that is being read: its two boxes and its rows. -/
def GT1 (w0 : World) (B R1 R2 : Nat) (nm : ByteArray) (L : Int) (v : Value) (k : Nat) (xs : List PairD) (w' : World) : Prop :=
  Blk w' R2 #[.string nm, .int .i64 L, v, .slice none 0 0] 39 ∧ Blk w' R1 #[.string ⟨#[]⟩, .int .i64 0, .slice none 0 0, .slice none 0 0] 39 ∧ w'.ownsRow (R2 + 1) 43 2 v k (flatQ xs) ∧ But B w0 w'
theorem GT1.turn {w0 : World} {B R1 R2 : Nat} {nm : ByteArray} {L : Int} {v : Value} {k : Nat} {xs : List PairD} {w' w'' : World} (h : GT1 w0 B R1 R2 nm L v k xs w') (hb : But B w' w'') (h1 : B < R1) (h2 : R1 < R2) : GT1 w0 B R1 R2 nm L v k xs w'' :=
  ⟨h.1.but hb (by omega), h.2.1.but hb (by omega), (Turn.but hb).row h.2.2.1 (fun g hg e => by have := (h.2.2.1.lt g hg).1; omega), h.2.2.2.trans hb⟩
def GT2 (w0 : World) (B R1 R2 M : Nat) (nm : ByteArray) (L : Int) (v1 : Value) (n1 : Nat) (ms : List PairD) (v : Value) (k : Nat) (xs : List PairD) (w' : World) : Prop :=
  Blk w' R2 #[.string nm, .int .i64 L, v1, v] 39 ∧ Blk w' R1 #[.string ⟨#[]⟩, .int .i64 0, .slice none 0 0, .slice none 0 0] 39 ∧ w'.ownsRow M 45 2 v k (flatQ xs) ∧ But B w0 w' ∧ w'.ownsRow (R2 + 1) 43 2 v1 n1 (flatQ ms) ∧ (∀ g, v1.ownBlock = some g → g < M) ∧ M ≤ w'.heap.size
theorem GT2.turn {w0 : World} {B R1 R2 M : Nat} {nm : ByteArray} {L : Int} {v1 : Value} {n1 : Nat} {ms : List PairD} {v : Value} {k : Nat} {xs : List PairD} {w' w'' : World} (h : GT2 w0 B R1 R2 M nm L v1 n1 ms v k xs w') (hb : But B w' w'') (h1 : B < R1) (h2 : R1 < R2) (h3 : R2 < M) : GT2 w0 B R1 R2 M nm L v1 n1 ms v k xs w'' :=
  ⟨h.1.but hb (by omega), h.2.1.but hb (by omega), (Turn.but hb).row h.2.2.1 (fun g hg e => by have := (h.2.2.1.lt g hg).1; omega), h.2.2.2.1.trans hb, (Turn.but hb).row h.2.2.2.2.1 (fun g hg e => by have := (h.2.2.2.2.1.lt g hg).1; omega), h.2.2.2.2.2.1, Nat.le_trans h.2.2.2.2.2.2 hb.size⟩
def TenOut (B : Nat) (r : Rd) (w : World) (e : Ending) (w' : World) : Prop :=
  ((tenR r).2.short = false ∧ ∃ M v1 v2, e = .returned (.agg #[.string (tenR r).1.name, .int .i64 (tenR r).1.limit, v1, v2]) ∧ w.heap.size ≤ M ∧ w'.ownsRow w.heap.size 43 2 v1 (tenR r).1.mets.length (flatQ (tenR r).1.mets) ∧ (∀ g, v1.ownBlock = some g → g < M) ∧ w'.ownsRow M 45 2 v2 (tenR r).1.sers.length (flatQ (tenR r).1.sers) ∧ RT w' B (tenR r).2 ∧ But B w w') ∨
  ((tenR r).2.short = true ∧ e = .panicked dcdP ∧ But B w w')
theorem TenOut.ok {B : Nat} {r : Rd} {w w' : World} {M : Nat} {v1 v2 : Value} (h : (tsR r).2.short = false) (hM : w.heap.size ≤ M) (h1 : w'.ownsRow w.heap.size 43 2 v1 (tmN r).1 (flatQ (tmR r).1)) (h2 : ∀ g, v1.ownBlock = some g → g < M) (h3 : w'.ownsRow M 45 2 v2 (tsN r).1 (flatQ (tsR r).1)) (h4 : RT w' B (tsR r).2) (h5 : But B w w') :
    TenOut B r w (.returned (.agg #[.string (tnR r).1, .int .i64 (wrapN (tlR r).1), v1, v2])) w' := by
  have l1 : (tmR r).1.length = (tmN r).1 := by rw [tmR]; exact rdPs_length _ _
  have l2 : (tsR r).1.length = (tsN r).1 := by rw [tsR]; exact rdPs_length _ _
  refine Or.inl ?_
  rw [tenR_fst, tenR_snd]
  generalize tmR r = A at *
  generalize tsR r = C at *
  generalize tmN r = n1 at *
  generalize tsN r = n2 at *
  generalize tnR r = nm at *
  generalize wrapN (tlR r).1 = L at *
  exact ⟨h, M, v1, v2, rfl, hM, by rw [l1]; exact h1, h2, by rw [l2]; exact h3, h4, h5⟩
theorem TenOut.bad {B : Nat} {r : Rd} {w w' : World} (h : (tsR r).2.short = true) (h5 : But B w w') : TenOut B r w (.panicked dcdP) w' := by
  refine Or.inr ?_
  rw [tenR_snd]
  exact ⟨h, rfl, h5⟩
/-- A decoder's step at any text: it answers, or it panics and the text is short. -/
theorem numD_any (B : Nat) (r : Rd) (k : Nat) (w : World) (hB : RT w B r) (hk : k ≤ 8) (hs : r.rest.size ≤ 1000000000) :
    Calls Tryz.prog 34 #[.pointer (some ⟨B, 0, none⟩), .int .i64 (k : Nat)] w fun e w' => (e = .returned (.int .i64 (wrapN (numR k r).1)) ∧ (numR k r).2.short = false ∧ RT w' B (numR k r).2 ∧ But B w w') ∨ (e = .panicked dcdP ∧ (numR k r).2.short = true ∧ But B w w') := by
  cases h : (numR k r).2.short with
  | true => exact (numD_bad B r k w hB hk hs h).mono fun e w' q => Or.inr ⟨q.1, rfl, q.2⟩
  | false => exact (numD_ok B r k w hB hk hs h).mono fun e w' q => Or.inl ⟨q.1, rfl, q.2⟩
theorem strD_any (B : Nat) (r : Rd) (k : Nat) (w : World) (hB : RT w B r) (hk : k ≤ 2) (hs : r.rest.size ≤ 1000000000) :
    Calls Tryz.prog 53 #[.pointer (some ⟨B, 0, none⟩), .int .i64 (k : Nat)] w fun e w' => (e = .returned (.string (textR k r).1) ∧ (textR k r).2.short = false ∧ RT w' B (textR k r).2 ∧ But B w w') ∨ (e = .panicked dcdP ∧ (textR k r).2.short = true ∧ But B w w') := by
  cases h : (textR k r).2.short with
  | true => exact (strD_bad B r k w hB hk hs h).mono fun e w' q => Or.inr ⟨q.1, rfl, q.2⟩
  | false => exact (strD_ok B r k w hB hk hs h).mono fun e w' q => Or.inl ⟨q.1, rfl, q.2⟩
theorem big_tn {r : Rd} (h : r.rest.size ≤ 1000000000) : (tnR r).2.rest.size ≤ 1000000000 := by rw [tnR]; exact Nat.le_trans (text_le 1 r).2 h
theorem big_tl {r : Rd} (h : r.rest.size ≤ 1000000000) : (tlR r).2.rest.size ≤ 1000000000 := by rw [tlR]; exact Nat.le_trans (num_le 8 _) (big_tn h)
theorem big_mn {r : Rd} (h : r.rest.size ≤ 1000000000) : (tmN r).2.rest.size ≤ 1000000000 := by rw [tmN]; exact Nat.le_trans (num_le 4 _) (big_tl h)
theorem big_tm {r : Rd} (h : r.rest.size ≤ 1000000000) : (tmR r).2.rest.size ≤ 1000000000 := by rw [tmR]; exact Nat.le_trans (rdPs_big _ _) (big_mn h)
theorem big_sn {r : Rd} (h : r.rest.size ≤ 1000000000) : (tsN r).2.rest.size ≤ 1000000000 := by rw [tsN]; exact Nat.le_trans (num_le 4 _) (big_tm h)

set_option maxRecDepth 100000 in
set_option maxHeartbeats 8000000 in
theorem tenantD_any (B : Nat) (r : Rd) (w : World) (hB : RT w B r) (hs : r.rest.size ≤ 1000000000) :
    Calls Tryz.prog 35 #[.pointer (some ⟨B, 0, none⟩)] w fun e w' => TenOut B r w e w' := by
  have hBw : B < w.heap.size := by obtain ⟨t, h⟩ := hB; exact lt_of_block h
  have HB : Hid (RT w B r) := hB
  have HOK : Hid (∀ M v1 v2 w', (tsR r).2.short = false → w.heap.size ≤ M → w'.ownsRow w.heap.size 43 2 v1 (tmN r).1 (flatQ (tmR r).1) → (∀ g, v1.ownBlock = some g → g < M) → w'.ownsRow M 45 2 v2 (tsN r).1 (flatQ (tsR r).1) → RT w' B (tsR r).2 → But B w w' → TenOut B r w (.returned (.agg #[.string (tnR r).1, .int .i64 (wrapN (tlR r).1), v1, v2])) w') := fun M v1 v2 w' a b c d e f g => TenOut.ok a b c d e f g
  have HBAD : Hid (∀ w', (tsR r).2.short = true → But B w w' → TenOut B r w (.panicked dcdP) w') := fun w' a b => TenOut.bad a b
  have HC1 : Hid (∀ W, RT W B r → Calls Tryz.prog 53 #[.pointer (some ⟨B, 0, none⟩), .int .i64 1] W fun e w' => (e = .returned (.string (tnR r).1) ∧ RT w' B (tnR r).2 ∧ But B W w') ∨ (e = .panicked dcdP ∧ (tsR r).2.short = true ∧ But B W w')) := fun W h => by
    refine (strD_any B r 1 W h (by omega) hs).mono ?_
    rintro e w' (⟨a, b, c⟩ | ⟨a, b, c⟩)
    · exact Or.inl ⟨by rw [tnR]; exact a, by rw [tnR]; exact c.1, c.2⟩
    · exact Or.inr ⟨a, ts_short (sn_short (tm_short (mn_short (tl_short (by rw [tnR]; exact b))))), c⟩
  have HC2 : Hid (∀ W, RT W B (tnR r).2 → Calls Tryz.prog 34 #[.pointer (some ⟨B, 0, none⟩), .int .i64 8] W fun e w' => (e = .returned (.int .i64 (wrapN (tlR r).1)) ∧ RT w' B (tlR r).2 ∧ But B W w') ∨ (e = .panicked dcdP ∧ (tsR r).2.short = true ∧ But B W w')) := fun W h => by
    refine (numD_any B _ 8 W h (by omega) (big_tn hs)).mono ?_
    rintro e w' (⟨a, b, c⟩ | ⟨a, b, c⟩)
    · exact Or.inl ⟨by rw [tlR]; exact a, by rw [tlR]; exact c.1, c.2⟩
    · exact Or.inr ⟨a, ts_short (sn_short (tm_short (mn_short (by rw [tlR]; exact b)))), c⟩
  have hn1 : (tmN r).1 < 4294967296 := by rw [tmN]; exact num_lt 4 _
  have hn2 : (tsN r).1 < 4294967296 := by rw [tsN]; exact num_lt 4 _
  have HC3 : Hid (∀ W, RT W B (tlR r).2 → Calls Tryz.prog 34 #[.pointer (some ⟨B, 0, none⟩), .int .i64 4] W fun e w' => (e = .returned (.int .i64 ((tmN r).1 : Nat)) ∧ (tmN r).2.short = false ∧ RT w' B (tmN r).2 ∧ But B W w') ∨ (e = .panicked dcdP ∧ (tsR r).2.short = true ∧ But B W w')) := fun W h => by
    refine (numD_any B _ 4 W h (by omega) (big_tl hs)).mono ?_
    have e0 : numR 4 (tlR r).2 = tmN r := by rw [tmN]
    rw [e0, wrapN_small (by omega)]
    rintro e w' (⟨a, b, c⟩ | ⟨a, b, c⟩)
    · exact Or.inl ⟨a, b, c⟩
    · exact Or.inr ⟨a, ts_short (sn_short (tm_short b)), c⟩
  have HC4 : Hid (∀ W, RT W B (rdPs (tmN r).2 (tmN r).1).2 → Calls Tryz.prog 34 #[.pointer (some ⟨B, 0, none⟩), .int .i64 4] W fun e w' => (e = .returned (.int .i64 ((tsN r).1 : Nat)) ∧ (tsN r).2.short = false ∧ RT w' B (tsN r).2 ∧ But B W w') ∨ (e = .panicked dcdP ∧ (tsR r).2.short = true ∧ But B W w')) := fun W h => by
    have e1 : (rdPs (tmN r).2 (tmN r).1) = tmR r := by rw [tmR]
    rw [e1] at h
    refine (numD_any B _ 4 W h (by omega) (big_tm hs)).mono ?_
    have e0 : numR 4 (tmR r).2 = tsN r := by rw [tsN]
    rw [e0, wrapN_small (by omega)]
    rintro e w' (⟨a, b, c⟩ | ⟨a, b, c⟩)
    · exact Or.inl ⟨a, b, c⟩
    · exact Or.inr ⟨a, ts_short b, c⟩
  have HST1 : Hid ((rdPs (tmN r).2 (tmN r).1).2.short = true → (tsR r).2.short = true) := fun h => ts_short (sn_short (by rw [tmR]; exact h))
  have HST2 : Hid ((rdPs (tsN r).2 (tsN r).1).2.short = true → (tsR r).2.short = true) := fun h => by rw [tsR]; exact h
  have HTS : Hid (tsR r = rdPs (tsN r).2 (tsN r).1) := by show _ = _; rw [tsR]
  have HTM : Hid (tmR r = rdPs (tmN r).2 (tmN r).1) := by show _ = _; rw [tmR]
  have hz1 := big_mn hs
  have hz2 := big_sn hs
  have HTT : Hid ((tsR r).2.short = (rdPs (tsN r).2 (tsN r).1).2.short) := by show _ = _; rw [tsR]
  have HOK2 : Hid (∀ M v1 v2 w', (rdPs (tsN r).2 (tsN r).1).2.short = false → w.heap.size ≤ M → w'.ownsRow w.heap.size 43 2 v1 (tmN r).1 (flatQ (rdPs (tmN r).2 (tmN r).1).1) → (∀ g, v1.ownBlock = some g → g < M) → w'.ownsRow M 45 2 v2 (tsN r).1 (flatQ (rdPs (tsN r).2 (tsN r).1).1) → RT w' B (rdPs (tsN r).2 (tsN r).1).2 → But B w w' → TenOut B r w (.returned (.agg #[.string (tnR r).1, .int .i64 (wrapN (tlR r).1), v1, v2])) w') := fun M v1 v2 w' a b c d e f g => by
    rw [← HTS.out] at a e f
    rw [← HTM.out] at c
    exact HOK.out M v1 v2 w' a b c d e f g
  clear HOK HTS HTM HTT hB hs
  generalize TenOut B r w = Post at *
  generalize (tsR r).2.short = TS at *
  generalize (tnR r).1 = nm at *
  generalize (tnR r).2 = r1 at *
  generalize wrapN (tlR r).1 = L at *
  generalize (tlR r).2 = r2 at *
  generalize (tmN r).1 = n1 at *
  generalize (tmN r).2 = c1 at *
  generalize (tsN r).1 = n2 at *
  generalize (tsN r).2 = c2 at *
  obtain ⟨i1, hi1, hq10, hq11, hq12⟩ := info_mlP
  have HI1 : Hid (Tryz.prog.info? 43 = some i1) := hi1
  obtain ⟨i2, hi2, hq20, hq21, hq22⟩ := info_srP
  have HI2 : Hid (Tryz.prog.info? 45 = some i2) := hi2
  clear hi1 hi2
  go_enter Tryz.func35, Tryz.ntmps35
  go_wp2_with fail
  refine (HC1.out _ (HB.out.laterD (bnew _ _))).mono ?_
  rintro e w1 (⟨rfl, hr1, hb1⟩ | ⟨rfl, hsh, hb1⟩)
  rotate_left
  · exact ⟨rfl, HBAD.out _ hsh ((But.of (bnew _ _)).trans hb1)⟩
  have H1 : Hid (RT w1 B r1 ∧ But B w w1 ∧ Blk w1 w.heap.size #[.string ⟨#[]⟩, .int .i64 0, .slice none 0 0, .slice none 0 0] 39) := ⟨hr1, (But.of (bnew _ _)).trans hb1, Blk.but (Blk.new _ _ _) hb1 (by omega)⟩
  clear hr1 hb1 HC1
  go_wp2_with fail
  refine (HC2.out _ H1.out.1).mono ?_
  rintro e w2 (⟨rfl, hr2, hb2⟩ | ⟨rfl, hsh, hb2⟩)
  rotate_left
  · exact ⟨rfl, HBAD.out _ hsh (H1.out.2.1.trans hb2)⟩
  have H2 : Hid (RT w2 B r2 ∧ But B w w2 ∧ Blk w2 w.heap.size #[.string ⟨#[]⟩, .int .i64 0, .slice none 0 0, .slice none 0 0] 39) := ⟨hr2, H1.out.2.1.trans hb2, Blk.but H1.out.2.2 hb2 (by omega)⟩
  clear hr2 hb2 HC2 H1
  have hR1 : w.heap.size < w2.heap.size := lt_of_block H2.out.2.2
  go_wp2_with fail
  refine (HC3.out _ (H2.out.1.laterD (bnew _ _))).mono ?_
  rintro e w3 (⟨rfl, hs3, hr3, hb3⟩ | ⟨rfl, hsh, hb3⟩)
  rotate_left
  · exact ⟨rfl, HBAD.out _ hsh ((H2.out.2.1.trans (But.of (bnew _ _))).trans hb3)⟩
  have H3 : Hid (RT w3 B c1 ∧ GT1 w B w.heap.size w2.heap.size nm L (.slice none 0 0) 0 [] w3 ∧ c1.short = false) := ⟨hr3, ⟨Blk.but (Blk.new _ _ _) hb3 (by omega), Blk.but (H2.out.2.2.alloc _) hb3 (by omega), World.ownsRow_nil _ _ _ _, (H2.out.2.1.trans (But.of (bnew _ _))).trans hb3⟩, hs3⟩
  clear hr3 hb3 hs3 HC3 H2
  generalize w2.heap.size = R2 at *
  go_wp2
  go_loopw [11] (fun i wr => ∃ (k : Nat) (v : Value), k ≤ n1 ∧ i = .int .i64 k ∧ Hid (GT1 w B w.heap.size R2 nm L v k (rdPs c1 k).1 wr) ∧ Hid (RT wr B (rdPs c1 k).2) ∧ Hid ((rdPs c1 k).2.short = false)) (fun i _ => n1 - (intOf i).toNat)
  case atStart => exact ⟨0, _, Nat.zero_le _, rfl, H3.out.2.1, H3.out.1, H3.out.2.2⟩
  case round =>
    obtain ⟨k, v, hk, rfl, HG, HRT, HSH⟩ := hrel
    by_cases hlt : k < n1
    · skip
      have hzr : (rdPs c1 k).2.rest.size ≤ 1000000000 := Nat.le_trans (rdPs_big c1 k) hz1
      have hzA : (textR 2 (rdPs c1 k).2).2.rest.size ≤ 1000000000 := Nat.le_trans (text_le 2 _).2 hzr
      have hk10 : 10 * k ≤ 1000000000 := by have := rdPs_room HSH.out; omega
      have hrs := rdPs_succ c1 k
      have hst : (rdPs c1 (k + 1)).2.short = true → TS = true := fun h => HST1.out (rdps_short h n1 (by omega))
      have e1 : (rdPs c1 (k + 1)).1 = (rdPs c1 k).1 ++ [⟨(textR 2 (rdPs c1 k).2).1, wrapN (numR 8 (textR 2 (rdPs c1 k).2).2).1⟩] := by rw [hrs]; simp only [prR_fst]
      have e2 : (rdPs c1 (k + 1)).2 = (numR 8 (textR 2 (rdPs c1 k).2).2).2 := by rw [hrs]; simp only [prR_snd]
      rw [e2] at hst
      have c0 : wr.cell? ⟨R2, 2, none⟩ = some v := HG.out.1.cell 2
      have HCL : Hid (∀ W, But B wr W → W.cell? ⟨R2, 2, none⟩ = some v) := fun W h => (HG.out.turn h hBw hR1).1.cell 2
      clear hrs
      by_cases s1 : (textR 2 (rdPs c1 k).2).2.short = true
      · have E : Hid (TS = true) := hst (num_short (k := 8) s1)
        have P1 : Hid (∀ W, RT W B (rdPs c1 k).2 → Calls Tryz.prog 53 #[.pointer (some ⟨B, 0, none⟩), .int .i64 2] W fun e w' => e = .panicked dcdP ∧ But B W w') := fun W h => strD_bad B _ 2 W h (by omega) hzr s1
        clear hst e1 e2 hzr hzA hk10
        go_wp2_with fail
        refine wp_region_held_drew (S := fun w' => w'.cell? ⟨R2, 2, none⟩ = some v) (by kernel_rfl) (HCL.out _ (ButDrewD (But.refl _ _))) (fun hHeld => ?_)
        refine wpAnyH_take (i := 0) (oi := _) (v := .pointer (some ⟨R2, 2, none⟩)) rfl (by kernel_rfl) (by kernel_rfl) (by kernel_rfl) (fun _ _ _ h => h) (Or.inl ⟨by rfl, by intro w' hSw; go_simp⟩) (by assumption) ?_
        refine wpAnyH_take (i := 1) (oi := _) (v := v) rfl (by kernel_rfl) (by kernel_rfl) (by kernel_rfl) (fun _ _ _ h => h) (Or.inl ⟨by rfl, by intro w' hSw; go_simp⟩) (by assumption) ?_
        refine wpAnyH_take (i := 2) (oi := _) (v := .pointer (some ⟨B, 0, none⟩)) rfl (by kernel_rfl) (by kernel_rfl) (by kernel_rfl) (fun _ _ _ h => h) (Or.inl ⟨by rfl, by intro w' hSw; go_simp⟩) (by assumption) ?_
        refine wpAnyH_take (i := 4) (oi := _) (v := .pointer (some ⟨B, 0, none⟩)) rfl (by kernel_rfl) (by kernel_rfl) (by kernel_rfl) (fun _ _ _ h => h) (Or.inl ⟨by rfl, by intro w' hSw; go_simp⟩) (by assumption) ?_
        refine wpAnyH_ready (rs := [3]) (by kernel_rfl) (by simp) ?_
        refine AllReadyH.cons (o := _) rfl (fun K hK => ?_) AllReadyH.nil
        go_simp
        refine (P1.out _ (HRT.out.laterD (Below.refl _ _).drew)).mono ?_
        rintro e w1 ⟨rfl, hb1⟩
        exact ⟨rfl, HBAD.out _ E.out (HG.out.2.2.2.trans ((ButDrewD (But.refl B wr)).trans hb1))⟩
      have sA : (textR 2 (rdPs c1 k).2).2.short = false := by simpa using s1
      clear s1
      by_cases s2 : (numR 8 (textR 2 (rdPs c1 k).2).2).2.short = true
      · have E : Hid (TS = true) := hst s2
        have P1 : Hid (∀ W, RT W B (rdPs c1 k).2 → Calls Tryz.prog 53 #[.pointer (some ⟨B, 0, none⟩), .int .i64 2] W fun e w' => e = .returned (.string (textR 2 (rdPs c1 k).2).1) ∧ RT w' B (textR 2 (rdPs c1 k).2).2 ∧ But B W w') := fun W h => strD_ok B _ 2 W h (by omega) hzr sA
        have P2 : Hid (∀ W, RT W B (textR 2 (rdPs c1 k).2).2 → Calls Tryz.prog 34 #[.pointer (some ⟨B, 0, none⟩), .int .i64 8] W fun e w' => e = .panicked dcdP ∧ But B W w') := fun W h => numD_bad B _ 8 W h (by omega) hzA s2
        clear hst e1 e2 hzr hzA hk10
        go_wp2_with fail
        refine wp_region_held_drew (S := fun w' => w'.cell? ⟨R2, 2, none⟩ = some v) (by kernel_rfl) (HCL.out _ (ButDrewD (But.refl _ _))) (fun hHeld => ?_)
        refine wpAnyH_take (i := 0) (oi := _) (v := .pointer (some ⟨R2, 2, none⟩)) rfl (by kernel_rfl) (by kernel_rfl) (by kernel_rfl) (fun _ _ _ h => h) (Or.inl ⟨by rfl, by intro w' hSw; go_simp⟩) (by assumption) ?_
        refine wpAnyH_take (i := 1) (oi := _) (v := v) rfl (by kernel_rfl) (by kernel_rfl) (by kernel_rfl) (fun _ _ _ h => h) (Or.inl ⟨by rfl, by intro w' hSw; go_simp⟩) (by assumption) ?_
        refine wpAnyH_take (i := 2) (oi := _) (v := .pointer (some ⟨B, 0, none⟩)) rfl (by kernel_rfl) (by kernel_rfl) (by kernel_rfl) (fun _ _ _ h => h) (Or.inl ⟨by rfl, by intro w' hSw; go_simp⟩) (by assumption) ?_
        refine wpAnyH_take (i := 4) (oi := _) (v := .pointer (some ⟨B, 0, none⟩)) rfl (by kernel_rfl) (by kernel_rfl) (by kernel_rfl) (fun _ _ _ h => h) (Or.inl ⟨by rfl, by intro w' hSw; go_simp⟩) (by assumption) ?_
        refine wpAnyH_ready (rs := [3]) (by kernel_rfl) (by simp) ?_
        refine AllReadyH.cons (o := _) rfl (fun K hK => ?_) AllReadyH.nil
        go_simp
        refine (P1.out _ (HRT.out.laterD (Below.refl _ _).drew)).mono ?_
        rintro e w1 ⟨rfl, t1, hb1⟩
        have b1 : But B wr w1 := (ButDrewD (But.refl B wr)).trans hb1
        refine hK _ _ (HCL.out _ b1) (fun hHeld1 => ?_)
        refine wpAnyH_ready (rs := [5]) (by kernel_rfl) (by simp) ?_
        refine AllReadyH.cons (o := _) rfl (fun K2 hK2 => ?_) AllReadyH.nil
        go_simp
        refine (P2.out _ t1).mono ?_
        rintro e w2 ⟨rfl, hb2⟩
        exact ⟨rfl, HBAD.out _ E.out (HG.out.2.2.2.trans (b1.trans hb2))⟩
      have sB : (numR 8 (textR 2 (rdPs c1 k).2).2).2.short = false := by simpa using s2
      clear s2
      have P1 : Hid (∀ W, RT W B (rdPs c1 k).2 → Calls Tryz.prog 53 #[.pointer (some ⟨B, 0, none⟩), .int .i64 2] W fun e w' => e = .returned (.string (textR 2 (rdPs c1 k).2).1) ∧ RT w' B (textR 2 (rdPs c1 k).2).2 ∧ But B W w') := fun W h => strD_ok B _ 2 W h (by omega) hzr sA
      have P2 : Hid (∀ W, RT W B (textR 2 (rdPs c1 k).2).2 → Calls Tryz.prog 34 #[.pointer (some ⟨B, 0, none⟩), .int .i64 8] W fun e w' => e = .returned (.int .i64 (wrapN (numR 8 (textR 2 (rdPs c1 k).2).2).1)) ∧ RT w' B (numR 8 (textR 2 (rdPs c1 k).2).2).2 ∧ But B W w') := fun W h => numD_ok B _ 8 W h (by omega) hzA sB
      have E3 : Hid ((rdPs c1 (k + 1)).2.short = false) := by show _ = _; rw [e2]; exact sB
      clear hst hzr hzA sA sB
      generalize wrapN (numR 8 (textR 2 (rdPs c1 k).2).2).1 = nu at *
      generalize (numR 8 (textR 2 (rdPs c1 k).2).2).2 = rB at *
      generalize (textR 2 (rdPs c1 k).2).1 = tx at *
      generalize (textR 2 (rdPs c1 k).2).2 = rA at *
      have E1 : Hid (flatQ (rdPs c1 (k + 1)).1 = flatQ (rdPs c1 k).1 ++ [.string tx, .int .i64 nu]) := by show _ = _; rw [e1, flatQ_append]; rfl
      have E2 : Hid ((rdPs c1 (k + 1)).2 = rB) := e2
      clear e1 e2
      have hRw : R2 < wr.heap.size := lt_of_block HG.out.1
      have hob : ∀ q, v.ownBlock = some q → (R2 + 1) ≤ q := fun q hq => (HG.out.2.2.1.lt q hq).1
      have hMr : R2 < wr.heap.size := hRw
      have agv : v.ownBlock ≠ some R2 := fun e => by have := hob _ e; omega
      go_wp2_with fail
      go_region_law
        (first
          | ((fail_if_success (have q := t1)); refine step_enterD (f := 53) (args := #[.pointer (some ⟨B, 0, none⟩), .int .i64 2]) rfl (by go_simp) ?_; refine (P1.out _ (HRT.out.laterD (Below.refl _ _).drew)).mono ?_; rintro e w1 ⟨rfl, t1, hb1⟩; have b1 : But B wr w1 := (ButDrewD (But.refl B wr)).trans hb1; have x1 := HCL.out _ b1; refine ⟨_, rfl, ?_⟩)
          | (have q := t1; clear q; (fail_if_success (have q := t4)); refine step_enterD (f := 34) (args := #[.pointer (some ⟨B, 0, none⟩), .int .i64 8]) rfl (by go_simp) ?_; refine (P2.out _ t1).mono ?_; rintro e w4 ⟨rfl, t4, hb4⟩; have b4 : But B wr w4 := b1.trans hb4; have x4 := HCL.out _ b4; have x5 : (w4.alloc (.cells #[.string tx, .int .i64 nu] 43)).cell? ⟨R2, 2, none⟩ = some v := ((HG.out.turn b4 hBw hR1).1.alloc _).cell 2; refine ⟨_, rfl, ?_⟩)
          | (have q := t4; clear q; refine step_append_lies _ (by rfl) _ _ _ (by rfl) (R2 + 1) 43 i1 _ 2 24 Tryz.underlying36 HI1.out hq10 hq11 hq12 rfl (by omega) v k (flatQ (rdPs c1 k).1) (by rfl) (by exact ((HG.out.turn b4 hBw hR1).2.2.1.alloc _)) ⟨w4.heap.size, 0, none⟩ 1 1 [.string tx, .int .i64 nu] (by rfl) (by rfl) (by exact World.news_of_block (cs := #[.string tx, .int .i64 nu]) (heap_alloc_new _ _)) (by simp [Value.oneCell']) (by omega) (by unfold maxLen; omega) (by omega) (by have := b4.size; simp; omega) (w4.heap.size + 1) (by simp) ?_; intro gg cap w5 hown5 hgrow hat hlt5; have HX5 : Hid (Blk w5 R2 #[.string nm, .int .i64 L, v, .slice none 0 0] 39) := (Turn.grown hgrow).blk ((HG.out.turn b4 hBw hR1).1.alloc _) agv; have s5 := HX5.out.cell 2; have f5 := HX5.out.free 2))
      all_goals (
        have hgg : (R2 + 1) ≤ gg := by
          rcases hat with h | h
          · exact hob _ h
          · have := b4.size; omega
        have HG5 : Hid (GT1 w B w.heap.size R2 nm L (.slice (some ⟨gg, 0, none⟩) (k + 1) cap) (k + 1) (rdPs c1 (k + 1)).1 (w5.setCell ⟨R2, 2, none⟩ (.slice (some ⟨gg, 0, none⟩) (k + 1) cap))) := by
          refine ⟨?_, ?_, ?_, ?_⟩
          · have := HX5.out.set 2 (.slice (some ⟨gg, 0, none⟩) (k + 1) cap); simpa using this
          · exact Blk.but ((Turn.grown hgrow).blk ((HG.out.turn b4 hBw hR1).2.1.alloc _) (fun e => by have := hob _ e; omega)) ((But.refl R2 w5).setCell 2 _) (by omega)
          · rw [E1.out]; exact ((Turn.refl (· = R2) w5).setCell (Or.inl rfl) 2 _).row hown5 (fun q hq e => by simp [Value.ownBlock] at hq; omega)
          · exact (((HG.out.2.2.2.trans b4).trans (But.of (bnew _ _))).upToD ((Below.refl _ _).grown hgrow (by have := b4.size; have := HG.out.2.2.2.size; simp; omega) (fun q hq => by have := hob q hq; omega))).upToD ((Below.refl _ _).setCell (by simp; omega) _)
        have HR5 : Hid (RT (w5.setCell ⟨R2, 2, none⟩ (.slice (some ⟨gg, 0, none⟩) (k + 1) cap)) B (rdPs c1 (k + 1)).2) := by
          rw [E2.out]
          obtain ⟨tt, ht⟩ := t4
          exact ⟨tt, Blk.but ((Turn.grown hgrow).blk (ht.alloc _) (fun e => by have := hob _ e; omega)) ((But.refl R2 w5).setCell 2 _) (by omega)⟩)
      all_goals clear hown5 hgrow hat s5 f5 HX5
      all_goals go_wp2
      all_goals exact ⟨⟨k + 1, _, by omega, by go_num, HG5.out, HR5.out, E3.out⟩, by simp [intOf]; omega⟩
    · obtain rfl : k = n1 := by omega
      clear H3
      go_wp2_with fail
      refine (HC4.out _ HRT.out).mono ?_
      rintro e w5 (⟨rfl, hs5, hr5, hb5⟩ | ⟨rfl, hsh, hb5⟩)
      rotate_left
      · exact ⟨rfl, HBAD.out _ hsh (HG.out.2.2.2.trans hb5)⟩
      have hRM : R2 < wr.heap.size := lt_of_block HG.out.1
      generalize HMS : (rdPs c1 k).1 = ms at *
      have H5 : Hid (RT w5 B c2 ∧ GT2 w B w.heap.size R2 wr.heap.size nm L v k ms (.slice none 0 0) 0 [] w5 ∧ c2.short = false) := by
        have h := HG.out.turn hb5 hBw hR1
        exact ⟨hr5, ⟨h.1, h.2.1, World.ownsRow_nil _ _ _ _, h.2.2.2, h.2.2.1, fun g hg => (HG.out.2.2.1.lt g hg).2, hb5.size⟩, hs5⟩
      have hMw : w.heap.size ≤ wr.heap.size := HG.out.2.2.2.size
      clear hr5 hb5 hs5 HC4 HG HRT HSH HMS
      generalize wr.heap.size = M at *
      obtain ⟨n1, rfl⟩ : ∃ n, n = k := ⟨k, rfl⟩
      obtain ⟨v1, rfl⟩ : ∃ n, n = v := ⟨v, rfl⟩
      clear wr
      go_wp2
      go_loopw [26] (fun i wr => ∃ (k : Nat) (v : Value), k ≤ n2 ∧ i = .int .i64 k ∧ Hid (GT2 w B w.heap.size R2 M nm L v1 n1 ms v k (rdPs c2 k).1 wr) ∧ Hid (RT wr B (rdPs c2 k).2) ∧ Hid ((rdPs c2 k).2.short = false)) (fun i _ => n2 - (intOf i).toNat)
      case atStart => exact ⟨0, _, Nat.zero_le _, rfl, H5.out.2.1, H5.out.1, H5.out.2.2⟩
      case round =>
        obtain ⟨k, v, hk, rfl, HG, HRT, HSH⟩ := hrel
        by_cases hlt : k < n2
        · skip
          have hzr : (rdPs c2 k).2.rest.size ≤ 1000000000 := Nat.le_trans (rdPs_big c2 k) hz2
          have hzA : (textR 2 (rdPs c2 k).2).2.rest.size ≤ 1000000000 := Nat.le_trans (text_le 2 _).2 hzr
          have hk10 : 10 * k ≤ 1000000000 := by have := rdPs_room HSH.out; omega
          have hrs := rdPs_succ c2 k
          have hst : (rdPs c2 (k + 1)).2.short = true → TS = true := fun h => HST2.out (rdps_short h n2 (by omega))
          have e1 : (rdPs c2 (k + 1)).1 = (rdPs c2 k).1 ++ [⟨(textR 2 (rdPs c2 k).2).1, wrapN (numR 8 (textR 2 (rdPs c2 k).2).2).1⟩] := by rw [hrs]; simp only [prR_fst]
          have e2 : (rdPs c2 (k + 1)).2 = (numR 8 (textR 2 (rdPs c2 k).2).2).2 := by rw [hrs]; simp only [prR_snd]
          rw [e2] at hst
          have c0 : wr.cell? ⟨R2, 3, none⟩ = some v := HG.out.1.cell 3
          have HCL : Hid (∀ W, But B wr W → W.cell? ⟨R2, 3, none⟩ = some v) := fun W h => (HG.out.turn h hBw hR1 hRM).1.cell 3
          clear hrs
          by_cases s1 : (textR 2 (rdPs c2 k).2).2.short = true
          · have E : Hid (TS = true) := hst (num_short (k := 8) s1)
            have P1 : Hid (∀ W, RT W B (rdPs c2 k).2 → Calls Tryz.prog 53 #[.pointer (some ⟨B, 0, none⟩), .int .i64 2] W fun e w' => e = .panicked dcdP ∧ But B W w') := fun W h => strD_bad B _ 2 W h (by omega) hzr s1
            clear hst e1 e2 hzr hzA hk10
            go_wp2_with fail
            refine wp_region_held_drew (S := fun w' => w'.cell? ⟨R2, 3, none⟩ = some v) (by kernel_rfl) (HCL.out _ (ButDrewD (But.refl _ _))) (fun hHeld => ?_)
            refine wpAnyH_take (i := 0) (oi := _) (v := .pointer (some ⟨R2, 3, none⟩)) rfl (by kernel_rfl) (by kernel_rfl) (by kernel_rfl) (fun _ _ _ h => h) (Or.inl ⟨by rfl, by intro w' hSw; go_simp⟩) (by assumption) ?_
            refine wpAnyH_take (i := 1) (oi := _) (v := v) rfl (by kernel_rfl) (by kernel_rfl) (by kernel_rfl) (fun _ _ _ h => h) (Or.inl ⟨by rfl, by intro w' hSw; go_simp⟩) (by assumption) ?_
            refine wpAnyH_take (i := 2) (oi := _) (v := .pointer (some ⟨B, 0, none⟩)) rfl (by kernel_rfl) (by kernel_rfl) (by kernel_rfl) (fun _ _ _ h => h) (Or.inl ⟨by rfl, by intro w' hSw; go_simp⟩) (by assumption) ?_
            refine wpAnyH_take (i := 4) (oi := _) (v := .pointer (some ⟨B, 0, none⟩)) rfl (by kernel_rfl) (by kernel_rfl) (by kernel_rfl) (fun _ _ _ h => h) (Or.inl ⟨by rfl, by intro w' hSw; go_simp⟩) (by assumption) ?_
            refine wpAnyH_ready (rs := [3]) (by kernel_rfl) (by simp) ?_
            refine AllReadyH.cons (o := _) rfl (fun K hK => ?_) AllReadyH.nil
            go_simp
            refine (P1.out _ (HRT.out.laterD (Below.refl _ _).drew)).mono ?_
            rintro e w1 ⟨rfl, hb1⟩
            exact ⟨rfl, HBAD.out _ E.out (HG.out.2.2.2.1.trans ((ButDrewD (But.refl B wr)).trans hb1))⟩
          have sA : (textR 2 (rdPs c2 k).2).2.short = false := by simpa using s1
          clear s1
          by_cases s2 : (numR 8 (textR 2 (rdPs c2 k).2).2).2.short = true
          · have E : Hid (TS = true) := hst s2
            have P1 : Hid (∀ W, RT W B (rdPs c2 k).2 → Calls Tryz.prog 53 #[.pointer (some ⟨B, 0, none⟩), .int .i64 2] W fun e w' => e = .returned (.string (textR 2 (rdPs c2 k).2).1) ∧ RT w' B (textR 2 (rdPs c2 k).2).2 ∧ But B W w') := fun W h => strD_ok B _ 2 W h (by omega) hzr sA
            have P2 : Hid (∀ W, RT W B (textR 2 (rdPs c2 k).2).2 → Calls Tryz.prog 34 #[.pointer (some ⟨B, 0, none⟩), .int .i64 8] W fun e w' => e = .panicked dcdP ∧ But B W w') := fun W h => numD_bad B _ 8 W h (by omega) hzA s2
            clear hst e1 e2 hzr hzA hk10
            go_wp2_with fail
            refine wp_region_held_drew (S := fun w' => w'.cell? ⟨R2, 3, none⟩ = some v) (by kernel_rfl) (HCL.out _ (ButDrewD (But.refl _ _))) (fun hHeld => ?_)
            refine wpAnyH_take (i := 0) (oi := _) (v := .pointer (some ⟨R2, 3, none⟩)) rfl (by kernel_rfl) (by kernel_rfl) (by kernel_rfl) (fun _ _ _ h => h) (Or.inl ⟨by rfl, by intro w' hSw; go_simp⟩) (by assumption) ?_
            refine wpAnyH_take (i := 1) (oi := _) (v := v) rfl (by kernel_rfl) (by kernel_rfl) (by kernel_rfl) (fun _ _ _ h => h) (Or.inl ⟨by rfl, by intro w' hSw; go_simp⟩) (by assumption) ?_
            refine wpAnyH_take (i := 2) (oi := _) (v := .pointer (some ⟨B, 0, none⟩)) rfl (by kernel_rfl) (by kernel_rfl) (by kernel_rfl) (fun _ _ _ h => h) (Or.inl ⟨by rfl, by intro w' hSw; go_simp⟩) (by assumption) ?_
            refine wpAnyH_take (i := 4) (oi := _) (v := .pointer (some ⟨B, 0, none⟩)) rfl (by kernel_rfl) (by kernel_rfl) (by kernel_rfl) (fun _ _ _ h => h) (Or.inl ⟨by rfl, by intro w' hSw; go_simp⟩) (by assumption) ?_
            refine wpAnyH_ready (rs := [3]) (by kernel_rfl) (by simp) ?_
            refine AllReadyH.cons (o := _) rfl (fun K hK => ?_) AllReadyH.nil
            go_simp
            refine (P1.out _ (HRT.out.laterD (Below.refl _ _).drew)).mono ?_
            rintro e w1 ⟨rfl, t1, hb1⟩
            have b1 : But B wr w1 := (ButDrewD (But.refl B wr)).trans hb1
            refine hK _ _ (HCL.out _ b1) (fun hHeld1 => ?_)
            refine wpAnyH_ready (rs := [5]) (by kernel_rfl) (by simp) ?_
            refine AllReadyH.cons (o := _) rfl (fun K2 hK2 => ?_) AllReadyH.nil
            go_simp
            refine (P2.out _ t1).mono ?_
            rintro e w2 ⟨rfl, hb2⟩
            exact ⟨rfl, HBAD.out _ E.out (HG.out.2.2.2.1.trans (b1.trans hb2))⟩
          have sB : (numR 8 (textR 2 (rdPs c2 k).2).2).2.short = false := by simpa using s2
          clear s2
          have P1 : Hid (∀ W, RT W B (rdPs c2 k).2 → Calls Tryz.prog 53 #[.pointer (some ⟨B, 0, none⟩), .int .i64 2] W fun e w' => e = .returned (.string (textR 2 (rdPs c2 k).2).1) ∧ RT w' B (textR 2 (rdPs c2 k).2).2 ∧ But B W w') := fun W h => strD_ok B _ 2 W h (by omega) hzr sA
          have P2 : Hid (∀ W, RT W B (textR 2 (rdPs c2 k).2).2 → Calls Tryz.prog 34 #[.pointer (some ⟨B, 0, none⟩), .int .i64 8] W fun e w' => e = .returned (.int .i64 (wrapN (numR 8 (textR 2 (rdPs c2 k).2).2).1)) ∧ RT w' B (numR 8 (textR 2 (rdPs c2 k).2).2).2 ∧ But B W w') := fun W h => numD_ok B _ 8 W h (by omega) hzA sB
          have E3 : Hid ((rdPs c2 (k + 1)).2.short = false) := by show _ = _; rw [e2]; exact sB
          clear hst hzr hzA sA sB
          generalize wrapN (numR 8 (textR 2 (rdPs c2 k).2).2).1 = nu at *
          generalize (numR 8 (textR 2 (rdPs c2 k).2).2).2 = rB at *
          generalize (textR 2 (rdPs c2 k).2).1 = tx at *
          generalize (textR 2 (rdPs c2 k).2).2 = rA at *
          have E1 : Hid (flatQ (rdPs c2 (k + 1)).1 = flatQ (rdPs c2 k).1 ++ [.string tx, .int .i64 nu]) := by show _ = _; rw [e1, flatQ_append]; rfl
          have E2 : Hid ((rdPs c2 (k + 1)).2 = rB) := e2
          clear e1 e2
          have hRw : R2 < wr.heap.size := lt_of_block HG.out.1
          have hob : ∀ q, v.ownBlock = some q → M ≤ q := fun q hq => (HG.out.2.2.1.lt q hq).1
          have hMr : M ≤ wr.heap.size := HG.out.2.2.2.2.2.2
          have agv : v.ownBlock ≠ some R2 := fun e => by have := hob _ e; omega
          go_wp2_with fail
          go_region_law
            (first
              | ((fail_if_success (have q := t1)); refine step_enterD (f := 53) (args := #[.pointer (some ⟨B, 0, none⟩), .int .i64 2]) rfl (by go_simp) ?_; refine (P1.out _ (HRT.out.laterD (Below.refl _ _).drew)).mono ?_; rintro e w1 ⟨rfl, t1, hb1⟩; have b1 : But B wr w1 := (ButDrewD (But.refl B wr)).trans hb1; have x1 := HCL.out _ b1; refine ⟨_, rfl, ?_⟩)
              | (have q := t1; clear q; (fail_if_success (have q := t4)); refine step_enterD (f := 34) (args := #[.pointer (some ⟨B, 0, none⟩), .int .i64 8]) rfl (by go_simp) ?_; refine (P2.out _ t1).mono ?_; rintro e w4 ⟨rfl, t4, hb4⟩; have b4 : But B wr w4 := b1.trans hb4; have x4 := HCL.out _ b4; have x5 : (w4.alloc (.cells #[.string tx, .int .i64 nu] 45)).cell? ⟨R2, 3, none⟩ = some v := ((HG.out.turn b4 hBw hR1 hRM).1.alloc _).cell 3; refine ⟨_, rfl, ?_⟩)
              | (have q := t4; clear q; refine step_append_lies _ (by rfl) _ _ _ (by rfl) M 45 i2 _ 2 24 Tryz.underlying37 HI2.out hq20 hq21 hq22 rfl (by omega) v k (flatQ (rdPs c2 k).1) (by rfl) (by exact ((HG.out.turn b4 hBw hR1 hRM).2.2.1.alloc _)) ⟨w4.heap.size, 0, none⟩ 1 1 [.string tx, .int .i64 nu] (by rfl) (by rfl) (by exact World.news_of_block (cs := #[.string tx, .int .i64 nu]) (heap_alloc_new _ _)) (by simp [Value.oneCell']) (by omega) (by unfold maxLen; omega) (by omega) (by have := b4.size; simp; omega) (w4.heap.size + 1) (by simp) ?_; intro gg cap w5 hown5 hgrow hat hlt5; have HX5 : Hid (Blk w5 R2 #[.string nm, .int .i64 L, v1, v] 39) := (Turn.grown hgrow).blk ((HG.out.turn b4 hBw hR1 hRM).1.alloc _) agv; have s5 := HX5.out.cell 3; have f5 := HX5.out.free 3))
          all_goals (
            have hgg : M ≤ gg := by
              rcases hat with h | h
              · exact hob _ h
              · have := b4.size; omega
            have HG5 : Hid (GT2 w B w.heap.size R2 M nm L v1 n1 ms (.slice (some ⟨gg, 0, none⟩) (k + 1) cap) (k + 1) (rdPs c2 (k + 1)).1 (w5.setCell ⟨R2, 3, none⟩ (.slice (some ⟨gg, 0, none⟩) (k + 1) cap))) := by
              refine ⟨?_, ?_, ?_, ?_, ?_, ?_, ?_⟩
              · have := HX5.out.set 3 (.slice (some ⟨gg, 0, none⟩) (k + 1) cap); simpa using this
              · exact Blk.but ((Turn.grown hgrow).blk ((HG.out.turn b4 hBw hR1 hRM).2.1.alloc _) (fun e => by have := hob _ e; omega)) ((But.refl R2 w5).setCell 3 _) (by omega)
              · rw [E1.out]; exact ((Turn.refl (· = R2) w5).setCell (Or.inl rfl) 3 _).row hown5 (fun q hq e => by simp [Value.ownBlock] at hq; omega)
              · exact (((HG.out.2.2.2.1.trans b4).trans (But.of (bnew _ _))).upToD ((Below.refl _ _).grown hgrow (by have := b4.size; have := HG.out.2.2.2.1.size; simp; omega) (fun q hq => by have := hob q hq; omega))).upToD ((Below.refl _ _).setCell (by simp; omega) _)
              · exact ((Turn.refl (· = R2) w5).setCell (Or.inl rfl) 3 _).row ((Turn.grown hgrow).row ((HG.out.turn b4 hBw hR1 hRM).2.2.2.2.1.alloc _) (fun q hq e => by have h1 := hob q e; have h2 := HG.out.2.2.2.2.2.1 q hq; omega)) (fun q hq e => by have := (HG.out.2.2.2.2.1.lt q hq).1; omega)
              · exact HG.out.2.2.2.2.2.1
              · have h9 : w4.heap.size + 1 ≤ w5.heap.size := by simpa using hgrow.size
                have h8 := b4.size
                simp
                omega
            have HR5 : Hid (RT (w5.setCell ⟨R2, 3, none⟩ (.slice (some ⟨gg, 0, none⟩) (k + 1) cap)) B (rdPs c2 (k + 1)).2) := by
              rw [E2.out]
              obtain ⟨tt, ht⟩ := t4
              exact ⟨tt, Blk.but ((Turn.grown hgrow).blk (ht.alloc _) (fun e => by have := hob _ e; omega)) ((But.refl R2 w5).setCell 3 _) (by omega)⟩)
          all_goals clear hown5 hgrow hat s5 f5 HX5
          all_goals go_wp2
          all_goals exact ⟨⟨k + 1, _, by omega, by go_num, HG5.out, HR5.out, E3.out⟩, by simp [intOf]; omega⟩
        · obtain rfl : k = n2 := by omega
          obtain ⟨sa, sc, rfl⟩ := row_formT HG.out.2.2.1
          obtain ⟨ra, rc, rfl⟩ := row_formT HG.out.2.2.2.2.1
          have a0 : wr.cell? ⟨R2, 0, none⟩ = some (.string nm) := HG.out.1.cell 0
          have a1 : wr.cell? ⟨R2, 1, none⟩ = some (.int .i64 L) := HG.out.1.cell 1
          have a2 : wr.cell? ⟨R2, 2, none⟩ = some (.slice ra n1 rc) := HG.out.1.cell 2
          have a3 : wr.cell? ⟨R2, 3, none⟩ = some (.slice sa k sc) := HG.out.1.cell 3
          have b0 : wr.cell? ⟨w.heap.size, 0, none⟩ = some (.string ⟨#[]⟩) := HG.out.2.1.cell 0
          have b1 : wr.cell? ⟨w.heap.size, 1, none⟩ = some (.int .i64 0) := HG.out.2.1.cell 1
          have b2 : wr.cell? ⟨w.heap.size, 2, none⟩ = some (.slice none 0 0) := HG.out.2.1.cell 2
          have b3 : wr.cell? ⟨w.heap.size, 3, none⟩ = some (.slice none 0 0) := HG.out.2.1.cell 3
          have e0 := HG.out.2.1.free 0
          have e1 := HG.out.2.1.free 1
          have e2 := HG.out.2.1.free 2
          have e3 := HG.out.2.1.free 3
          go_wp2
          have HTE : Turn (· = w.heap.size) wr ((((wr.setCell ⟨w.heap.size, 0, none⟩ (.string nm)).setCell ⟨w.heap.size, 1, none⟩ (.int .i64 L)).setCell ⟨w.heap.size, 2, none⟩ (.slice ra n1 rc)).setCell ⟨w.heap.size, 3, none⟩ (.slice sa k sc)) := ((((Turn.refl (· = w.heap.size) wr).setCell (Or.inl rfl) 0 _).setCell (Or.inl rfl) 1 _).setCell (Or.inl rfl) 2 _).setCell (Or.inl rfl) 3 _
          refine bodyPost_ret (v := .agg #[.string nm, .int .i64 L, .slice ra n1 rc, .slice sa k sc]) (by simp [results, Tryz.results35, go_sem, b0, b1, b2, b3]) rfl (HOK2.out M _ _ _ HSH.out hMw (row_baseD (HTE.row HG.out.2.2.2.2.1 (fun q hq e => by have := (HG.out.2.2.2.2.1.lt q hq).1; omega)) (by omega)) HG.out.2.2.2.2.2.1 (HTE.row HG.out.2.2.1 (fun q hq e => by have := (HG.out.2.2.1.lt q hq).1; omega)) ?_ ?_)
          · obtain ⟨tt, ht⟩ := HRT.out
            exact ⟨tt, HTE.blk ht (by omega)⟩
          · exact HG.out.2.2.2.1.upToD (((Turn.of (S := fun _ => False) (Below.refl _ _)).mono (fun _ _ h => h.elim)).trans' (S := (· = w.heap.size)) HTE |>.below (by have := lt_of_block HG.out.2.1; omega) (fun q hq e => by omega))
end Go.Proofs.YtoecnlhnfhongaaGreatDoor

