import Derived.Test.YtoecnlhnfhongaaDoorProg
import Derived.Test.YtoecnlhnfhongaaDoorJ06ISmpD
import Derived.Test.YtoecnlhnfhongaaDoorJ11RqF
namespace Go.Proofs.YtoecnlhnfhongaaDoor
open Go.RowKit

theorem ShTab.but {w w' : World} {B : Nat} (h : ShTab w) (hb : But B w w') (hB : 0 ≠ B) : ShTab w' :=
  ⟨Nat.lt_of_lt_of_le h.1 hb.size, fun i j hi hj => (World.cell?_of_block (hb.block _ h.1 hB)).trans (h.2 i j hi hj)⟩
/-- The request that is being read: the result's box, its own box, its shape's, the decoder. -/
def GQ (w w' : World) (B R2 R3 : Nat) (cs shc : Array Value) (r : Rd) : Prop :=
  Blk w' w.heap.size #[.int .i64 0, .string ByteArray.empty, .string ByteArray.empty, .int .i64 0, .slice none 0 0] 29 ∧ Blk w' R2 cs 29 ∧ Blk w' R3 shc 43 ∧ RT w' B r ∧ But B w w' ∧ w.heap.size < R2 ∧ R2 < R3
theorem GQ.turn {w w' w'' : World} {B R2 R3 : Nat} {cs shc : Array Value} {r r' : Rd} (h : GQ w w' B R2 R3 cs shc r) (hB : B < w.heap.size) (hb : But B w' w'') (hr : RT w'' B r') : GQ w w'' B R2 R3 cs shc r' :=
  ⟨h.1.but hb (by omega), h.2.1.but hb (by have := h.2.2.2.2.2.1; omega), h.2.2.1.but hb (by have := h.2.2.2.2.2.1; have := h.2.2.2.2.2.2; omega), hr, h.2.2.2.2.1.trans hb, h.2.2.2.2.2⟩
theorem GQ.set {w w' : World} {B R2 R3 : Nat} {cs shc : Array Value} {r : Rd} (h : GQ w w' B R2 R3 cs shc r) (hB : B < w.heap.size) (i : Nat) (v : Value) : GQ w (w'.setCell ⟨R2, i, none⟩ v) B R2 R3 (cs.setIfInBounds i v) shc r := by
  obtain ⟨h1, h2, h3, ⟨t, h4⟩, h5, h6, h7⟩ := h
  have hb : But R2 w' (w'.setCell ⟨R2, i, none⟩ v) := (But.refl R2 w').setCell i v
  refine ⟨h1.but hb (by omega), h2.set i v, h3.but hb (by omega), ⟨t, h4.but hb (by omega)⟩, ⟨hb.os.trans h5.os, hb.tape.trans h5.tape, hb.output.trans h5.output, Nat.le_trans h5.size hb.size, fun q hq hn => (hb.block q (Nat.lt_of_lt_of_le hq h5.size) (by omega)).trans (h5.block q hq hn)⟩, h6, h7⟩
def RqOut (B : Nat) (s : ByteArray) (w : World) (e : Ending) (w' : World) : Prop :=
  (((1 ≤ (rqK s).1 ∧ (rqK s).1 ≤ 6) ∧ (rqN s).2.short = false) ∧ ∃ av cap, e = .returned (.agg #[.int .i64 ((rqK s).1 : Nat), .string (rqT s).1, .string (rqM s).1, .int .i64 (rqN s).1, .slice av (rqS s).1.length cap]) ∧ SmpsOwn w' w.heap.size av (rqS s).1 ∧ But B w w') ∨
  (¬ ((1 ≤ (rqK s).1 ∧ (rqK s).1 ≤ 6) ∧ (rqN s).2.short = false) ∧ e = .panicked dcdP ∧ But B w w')

set_option maxRecDepth 100000 in
set_option maxHeartbeats 8000000 in
theorem reqD1_any (B : Nat) (s : ByteArray) (w : World) (hB : RT w B ⟨s, false⟩) (hs : s.size ≤ 1000000000) (hT : ShTab w) (hBG : 0 ≠ B) (hk : (rqK s).1 = 1) :
    Calls Tryd.prog 26 #[.pointer (some ⟨B, 0, none⟩)] w fun e w' => RqOut B s w e w' := by
  have hBw : B < w.heap.size := by obtain ⟨t, h⟩ := hB; exact lt_of_block h
  have HB : Hid (RT w B ⟨s, false⟩) := hB
  have hk2 : (((rqK s).1 : Nat) : Int) = 1 := by rw [hk]; rfl
  have eT : rqT s = textR 1 (rqK s).2 := by rw [rqT, hk2]; exact if_pos (by decide)
  have eS : rqS s = rdXs (rqC s).2 (rqC s).1 := by rw [rqS]; exact if_pos hk
  have eM : rqM s = (ByteArray.empty, (rqS s).2) := by rw [rqM, hk2]; exact if_neg (by decide)
  have eN : rqN s = (0, (rqM s).2) := by rw [rqN, hk2]; exact if_neg (by decide)
  have sM : (rqM s).2.short = true → (rqN s).2.short = true := fun h => by rw [eN]; exact h
  have sS : (rqS s).2.short = true → (rqN s).2.short = true := fun h => sM (by rw [eM]; exact h)
  have eX : xsR (rqT s).2 = rqS s := by rw [xsR, eS, rqC, xsN]
  have sT : (rqT s).2.short = true → (rqN s).2.short = true := fun h => sS (by rw [eS]; exact rdXs_short (k := 0) (by rw [rdXs_zero, rqC]; exact num_short h) _ (Nat.zero_le _))
  have sK : (rqK s).2.short = true → (rqN s).2.short = true := fun h => sT (by rw [eT]; exact text_short h)
  have zK : (rqK s).2.rest.size ≤ 1000000000 := by rw [rqK]; exact Nat.le_trans (numr_le 1 ⟨s, false⟩) hs
  have zT : (rqT s).2.rest.size ≤ 1000000000 := by rw [eT]; exact Nat.le_trans (text_le 1 _).2 zK
  have zS : (rqS s).2.rest.size ≤ 1000000000 := by rw [eS]; exact Nat.le_trans (rdXs_le _ _) (by rw [rqC]; exact Nat.le_trans (numr_le 2 _) zT)
  have H0 : Hid (∀ W, RT W B ⟨s, false⟩ → Calls Tryd.prog 47 #[.pointer (some ⟨B, 0, none⟩), .int .i64 1] W fun e w' => (e = .returned (.int .i64 1) ∧ (rqK s).2.short = false ∧ RT w' B (rqK s).2 ∧ But B W w') ∨ (e = .panicked dcdP ∧ (rqN s).2.short = true ∧ But B W w')) := fun W h => by
    refine (numDr_any B _ 1 W h (by omega) hs).mono ?_
    have e0 : numR 1 ⟨s, false⟩ = rqK s := by rw [rqK]
    rw [e0, hk, wrapN_small (by omega)]
    rintro e w' (⟨a, b, c⟩ | ⟨a, b, c⟩)
    · exact Or.inl ⟨a, b, c⟩
    · exact Or.inr ⟨a, sK b, c⟩
  have H1 : Hid (∀ W, RT W B (rqK s).2 → Calls Tryd.prog 48 #[.pointer (some ⟨B, 0, none⟩), .int .i64 1] W fun e w' => (e = .returned (.string (rqT s).1) ∧ (rqT s).2.short = false ∧ RT w' B (rqT s).2 ∧ But B W w') ∨ (e = .panicked dcdP ∧ (rqN s).2.short = true ∧ But B W w')) := fun W h => by
    refine (strDr_any B _ 1 W h (by omega) zK).mono ?_
    rw [← eT]
    rintro e w' (⟨a, b, c⟩ | ⟨a, b, c⟩)
    · exact Or.inl ⟨a, b, c⟩
    · exact Or.inr ⟨a, sT b, c⟩
  have H2 : Hid (∀ W, RT W B (rqT s).2 → Calls Tryd.prog 49 #[.pointer (some ⟨B, 0, none⟩)] W fun e w' => (∃ av cap, e = .returned (.slice av (rqS s).1.length cap) ∧ (rqS s).2.short = false ∧ SmpsOwn w' W.heap.size av (rqS s).1 ∧ RT w' B (rqS s).2 ∧ But B W w') ∨ (e = .panicked dcdP ∧ (rqN s).2.short = true ∧ But B W w')) := fun W h => by
    refine (samplesD_any B _ W h zT).mono ?_
    unfold XsOut
    rw [eX]
    rintro e w' (⟨q0, av, cap, q1, q⟩ | ⟨a, b, c⟩)
    · exact Or.inl ⟨av, cap, q1, q0, q⟩
    · exact Or.inr ⟨b, sS a, c⟩
  have HOK : Hid (∀ av cap w', (rqN s).2.short = false → SmpsOwn w' w.heap.size av (rqS s).1 → But B w w' → RqOut B s w (.returned (.agg #[.int .i64 1, .string (rqT s).1, .string (rqM s).1, .int .i64 (rqN s).1, .slice av (rqS s).1.length cap])) w') := fun av cap w' h1 h2 h3 => by
    refine Or.inl ⟨⟨⟨by omega, by omega⟩, h1⟩, av, cap, ?_, h2, h3⟩
    rw [hk2]
  have HBAD : Hid (∀ w', (rqN s).2.short = true → But B w w' → RqOut B s w (.panicked dcdP) w') := fun w' h h2 => Or.inr ⟨fun q => absurd (q.2.symm.trans h) (by decide), rfl, h2⟩
  have cM1 : (rqM s).1 = ByteArray.empty := by rw [eM]
  have cM2 : (rqM s).2 = (rqS s).2 := by rw [eM]
  have cN1 : (rqN s).1 = 0 := by rw [eN]
  have cN2 : (rqN s).2 = (rqM s).2 := by rw [eN]
  clear eT eS eM eN sM sS sT sK zK zT zS eX
  try rw [cN1] at H0
  try rw [cN1] at H1
  try rw [cN1] at H2
  try rw [cN1] at HOK
  try rw [cN1] at HBAD
  try rw [cN2] at H0
  try rw [cN2] at H1
  try rw [cN2] at H2
  try rw [cN2] at HOK
  try rw [cN2] at HBAD
  try rw [cM1] at H0
  try rw [cM1] at H1
  try rw [cM1] at H2
  try rw [cM1] at HOK
  try rw [cM1] at HBAD
  try rw [cM2] at H0
  try rw [cM2] at H1
  try rw [cM2] at H2
  try rw [cM2] at HOK
  try rw [cM2] at HBAD
  clear cN1 cN2 cM1 cM2
  have HTB : Hid (ShTab w) := hT
  clear hB hT hk2 hs
  generalize RqOut B s w = Post at *
  have HIK : Hid (∀ W, Calls Tryd.prog 17 #[.int .i64 1] W fun e w' => e = .returned (.bool true) ∧ Below W.heap.size W w') := fun W => isKind_any 1 W
  go_enter Tryd.func26, Tryd.ntmps26
  go_wp2_with fail
  refine (H0.out _ (HB.out.laterL (bnew _ _))).mono ?_
  rintro e w1 (⟨rfl, hs1, hr1, hb1⟩ | ⟨rfl, hsh, hb1⟩)
  rotate_left
  · exact ⟨rfl, HBAD.out _ hsh ((But.of (bnew _ _)).trans hb1)⟩
  have K1 : Hid (Blk w1 w.heap.size #[.int .i64 0, .string ByteArray.empty, .string ByteArray.empty, .int .i64 0, .slice none 0 0] 29 ∧ RT w1 B (rqK s).2 ∧ But B w w1 ∧ (rqK s).2.short = false) := ⟨Blk.but (Blk.new _ _ _) hb1 (by omega), hr1, (But.of (bnew _ _)).trans hb1, hs1⟩
  have hR12 : w.heap.size < w1.heap.size := lt_of_block K1.out.1
  clear hs1 hr1 hb1 HB H0
  go_wp2_with fail
  refine (HIK.out _).mono ?_
  rintro e w2 ⟨rfl, hb2⟩
  have K2 : Hid (Blk w2 w.heap.size #[.int .i64 0, .string ByteArray.empty, .string ByteArray.empty, .int .i64 0, .slice none 0 0] 29 ∧ RT w2 B (rqK s).2 ∧ But B w w2 ∧ Blk w2 w1.heap.size #[.int .i64 1, .string ByteArray.empty, .string ByteArray.empty, .int .i64 0, .slice none 0 0] 29) := ⟨(K1.out.1.alloc _).later hb2, (K1.out.2.1.laterL (bnew _ _)).laterL hb2, (K1.out.2.2.1.trans (But.of (bnew _ _))).trans (But.of hb2), (Blk.new _ _ _).later hb2⟩
  have HT2 : Hid (ShTab w2) := HTB.out.but K2.out.2.2.1 hBG
  have hR23 : w1.heap.size < w2.heap.size := lt_of_block K2.out.2.2.2
  have r0 : w2.cell? ⟨w1.heap.size, 0, none⟩ = some (.int .i64 1) := K2.out.2.2.2.cell 0
  have t0 : w2.cell? ⟨0, 5, none⟩ = some (.bool true) := HT2.out.2 1 0 (by omega) (by omega)
  have t1 : w2.cell? ⟨0, 6, none⟩ = some (.bool true) := HT2.out.2 1 1 (by omega) (by omega)
  have t2 : w2.cell? ⟨0, 7, none⟩ = some (.bool false) := HT2.out.2 1 2 (by omega) (by omega)
  have t3 : w2.cell? ⟨0, 8, none⟩ = some (.bool false) := HT2.out.2 1 3 (by omega) (by omega)
  have t4 : w2.cell? ⟨0, 9, none⟩ = some (.bool true) := HT2.out.2 1 4 (by omega) (by omega)
  clear hb2
  go_wp2_with fail
  refine (must_ok _ _).mono ?_
  rintro e wx ⟨rfl, hw⟩
  replace hw := hw.symm
  subst hw
  go_upto_region 4 with fail
  have G1 : Hid (GQ w (w2.alloc (.cells #[.bool true, .bool true, .bool false, .bool false, .bool true] 43)) B w1.heap.size w2.heap.size #[.int .i64 1, .string ByteArray.empty, .string ByteArray.empty, .int .i64 0, .slice none 0 0] #[.bool true, .bool true, .bool false, .bool false, .bool true] (rqK s).2) := ⟨K2.out.1.alloc _, K2.out.2.2.2.alloc _, Blk.new _ _ _, K2.out.2.1.laterL (bnew _ _), K2.out.2.2.1.trans (But.of (bnew _ _)), hR12, hR23⟩
  have HS1 : Hid ((rqK s).2.short = false) := K1.out.2.2.2
  clear K1 K2 HT2 HTB r0 t0 t1 t2 t3 t4 HIK
  generalize w2.alloc (.cells #[.bool true, .bool true, .bool false, .bool false, .bool true] 43) = W1 at *
  generalize w2.heap.size = R3 at *
  generalize w1.heap.size = R2 at *
  clear w1 w2
  have h0 : W1.cell? ⟨R3, 0, none⟩ = some (.bool true) := G1.out.2.2.1.cell 0
  have h1 : W1.cell? ⟨R3, 1, none⟩ = some (.bool true) := G1.out.2.2.1.cell 1
  have h2 : W1.cell? ⟨R3, 2, none⟩ = some (.bool false) := G1.out.2.2.1.cell 2
  have h3 : W1.cell? ⟨R3, 3, none⟩ = some (.bool false) := G1.out.2.2.1.cell 3
  go_wp2_with fail
  refine (H1.out _ G1.out.2.2.2.1).mono ?_
  rintro e x2 (⟨rfl, hs5, hr5, hb5⟩ | ⟨rfl, hsh, hb5⟩)
  rotate_left
  · exact ⟨rfl, HBAD.out _ hsh (G1.out.2.2.2.2.1.trans hb5)⟩
  have J2 : Hid (GQ w x2 B R2 R3 #[.int .i64 1, .string ByteArray.empty, .string ByteArray.empty, .int .i64 0, .slice none 0 0] #[.bool true, .bool true, .bool false, .bool false, .bool true] (rqT s).2) := G1.out.turn hBw hb5 hr5
  have HS2 : Hid ((rqT s).2.short = false) := hs5
  have c0 : x2.cell? ⟨R2, 1, none⟩ = some (.string ByteArray.empty) := J2.out.2.1.cell 1
  have c1 := J2.out.2.1.free 1
  clear hs5 hr5 hb5 G1 h0 h1 h2 h3 H1
  go_upto_region 6 with fail
  have G2 := hid (J2.out.set hBw 1 (.string (rqT s).1))
  clear c0 c1 J2
  generalize x2.setCell ⟨R2, 1, none⟩ (.string (rqT s).1) = W2 at *
  clear x2
  replace G2 : Hid (GQ w W2 B R2 R3 #[.int .i64 1, .string (rqT s).1, .string ByteArray.empty, .int .i64 0, .slice none 0 0] #[.bool true, .bool true, .bool false, .bool false, .bool true] (rqT s).2) := G2
  have h0 : W2.cell? ⟨R3, 0, none⟩ = some (.bool true) := G2.out.2.2.1.cell 0
  have h1 : W2.cell? ⟨R3, 1, none⟩ = some (.bool true) := G2.out.2.2.1.cell 1
  have h2 : W2.cell? ⟨R3, 2, none⟩ = some (.bool false) := G2.out.2.2.1.cell 2
  have h3 : W2.cell? ⟨R3, 3, none⟩ = some (.bool false) := G2.out.2.2.1.cell 3
  go_wp2_with fail
  refine (H2.out _ G2.out.2.2.2.1).mono ?_
  rintro e x3 (⟨av, ac, rfl, hs5, ho5, hr5, hb5⟩ | ⟨rfl, hsh, hb5⟩)
  rotate_left
  · exact ⟨rfl, HBAD.out _ hsh (G2.out.2.2.2.2.1.trans hb5)⟩
  have J3 : Hid (GQ w x3 B R2 R3 #[.int .i64 1, .string (rqT s).1, .string ByteArray.empty, .int .i64 0, .slice none 0 0] #[.bool true, .bool true, .bool false, .bool false, .bool true] (rqS s).2) := G2.out.turn hBw hb5 hr5
  have HS3 : Hid ((rqS s).2.short = false) := hs5
  have HOW : Hid (SmpsOwn x3 W2.heap.size av (rqS s).1) := ho5
  have hW2 : w.heap.size < W2.heap.size ∧ R2 < W2.heap.size := ⟨lt_of_block G2.out.1, lt_of_block G2.out.2.1⟩
  clear ho5
  have c0 : x3.cell? ⟨R2, 4, none⟩ = some (.slice none 0 0) := J3.out.2.1.cell 4
  have c1 := J3.out.2.1.free 4
  clear hs5 hr5 hb5 G2 h0 h1 h2 h3 H2
  go_upto_region 8 with fail
  have G3 := hid (J3.out.set hBw 4 (.slice av (rqS s).1.length ac))
  have HOW2 : Hid (SmpsOwn (x3.setCell ⟨R2, 4, none⟩ (.slice av (rqS s).1.length ac)) W2.heap.size av (rqS s).1) := HOW.out.but ((But.refl R2 x3).setCell 4 _) hW2.2
  clear HOW
  clear c0 c1 J3
  generalize x3.setCell ⟨R2, 4, none⟩ (.slice av (rqS s).1.length ac) = W3 at *
  clear x3
  replace G3 : Hid (GQ w W3 B R2 R3 #[.int .i64 1, .string (rqT s).1, .string ByteArray.empty, .int .i64 0, .slice av (rqS s).1.length ac] #[.bool true, .bool true, .bool false, .bool false, .bool true] (rqS s).2) := G3
  have h0 : W3.cell? ⟨R3, 0, none⟩ = some (.bool true) := G3.out.2.2.1.cell 0
  have h1 : W3.cell? ⟨R3, 1, none⟩ = some (.bool true) := G3.out.2.2.1.cell 1
  have h2 : W3.cell? ⟨R3, 2, none⟩ = some (.bool false) := G3.out.2.2.1.cell 2
  have h3 : W3.cell? ⟨R3, 3, none⟩ = some (.bool false) := G3.out.2.2.1.cell 3
  have x0c : W3.cell? ⟨R2, 0, none⟩ = some (.int .i64 1) := G3.out.2.1.cell 0
  have x1c : W3.cell? ⟨R2, 1, none⟩ = some (.string (rqT s).1) := G3.out.2.1.cell 1
  have x2c : W3.cell? ⟨R2, 2, none⟩ = some (.string ByteArray.empty) := G3.out.2.1.cell 2
  have x3c : W3.cell? ⟨R2, 3, none⟩ = some (.int .i64 0) := G3.out.2.1.cell 3
  have x4c : W3.cell? ⟨R2, 4, none⟩ = some (.slice av (rqS s).1.length ac) := G3.out.2.1.cell 4
  have y0 : W3.cell? ⟨w.heap.size, 0, none⟩ = some (.int .i64 0) := G3.out.1.cell 0
  have f0 := G3.out.1.free 0
  have y1 : W3.cell? ⟨w.heap.size, 1, none⟩ = some (.string ByteArray.empty) := G3.out.1.cell 1
  have f1 := G3.out.1.free 1
  have y2 : W3.cell? ⟨w.heap.size, 2, none⟩ = some (.string ByteArray.empty) := G3.out.1.cell 2
  have f2 := G3.out.1.free 2
  have y3 : W3.cell? ⟨w.heap.size, 3, none⟩ = some (.int .i64 0) := G3.out.1.cell 3
  have f3 := G3.out.1.free 3
  have y4 : W3.cell? ⟨w.heap.size, 4, none⟩ = some (.slice none 0 0) := G3.out.1.cell 4
  have f4 := G3.out.1.free 4
  have BW : Hid (But B w W3) := G3.out.2.2.2.2.1
  go_wp2
  refine bodyPost_ret (v := .agg #[.int .i64 1, .string (rqT s).1, .string ByteArray.empty, .int .i64 0, .slice av (rqS s).1.length ac]) (by simp [results, Tryd.results26, go_sem, y0, y1, y2, y3, y4]) rfl (HOK.out av ac _ HS3.out ((HOW2.out.but ((((((But.refl w.heap.size W3).setCell 0 _).setCell 1 _).setCell 2 _).setCell 3 _).setCell 4 _) (by omega)).mono (by omega)) ?_)
  exact BW.out.upR ((((((Below.refl _ _).setCell (by simp) _).setCell (by simp) _).setCell (by simp) _).setCell (by simp) _).setCell (by simp) _)

set_option maxRecDepth 100000 in
set_option maxHeartbeats 8000000 in
theorem reqD2_any (B : Nat) (s : ByteArray) (w : World) (hB : RT w B ⟨s, false⟩) (hs : s.size ≤ 1000000000) (hT : ShTab w) (hBG : 0 ≠ B) (hk : (rqK s).1 = 2) :
    Calls Tryd.prog 26 #[.pointer (some ⟨B, 0, none⟩)] w fun e w' => RqOut B s w e w' := by
  have hBw : B < w.heap.size := by obtain ⟨t, h⟩ := hB; exact lt_of_block h
  have HB : Hid (RT w B ⟨s, false⟩) := hB
  have hk2 : (((rqK s).1 : Nat) : Int) = 2 := by rw [hk]; rfl
  have eT : rqT s = (ByteArray.empty, (rqK s).2) := by rw [rqT, hk2]; exact if_neg (by decide)
  have eS : rqS s = ([], (rqT s).2) := by rw [rqS]; exact if_neg (by omega)
  have eM : rqM s = (ByteArray.empty, (rqS s).2) := by rw [rqM, hk2]; exact if_neg (by decide)
  have eN : rqN s = (wrapN (numR 8 (rqM s).2).1, (numR 8 (rqM s).2).2) := by rw [rqN, hk2]; exact if_pos (by decide)
  have sM : (rqM s).2.short = true → (rqN s).2.short = true := fun h => by rw [eN]; exact num_short h
  have sS : (rqS s).2.short = true → (rqN s).2.short = true := fun h => sM (by rw [eM]; exact h)
  have sT : (rqT s).2.short = true → (rqN s).2.short = true := fun h => sS (by rw [eS]; exact h)
  have sK : (rqK s).2.short = true → (rqN s).2.short = true := fun h => sT (by rw [eT]; exact h)
  have zK : (rqK s).2.rest.size ≤ 1000000000 := by rw [rqK]; exact Nat.le_trans (numr_le 1 ⟨s, false⟩) hs
  have zT : (rqT s).2.rest.size ≤ 1000000000 := by rw [eT]; exact zK
  have zS : (rqS s).2.rest.size ≤ 1000000000 := by rw [eS]; exact zT
  have zM : (rqM s).2.rest.size ≤ 1000000000 := by rw [eM]; exact zS
  have H0 : Hid (∀ W, RT W B ⟨s, false⟩ → Calls Tryd.prog 47 #[.pointer (some ⟨B, 0, none⟩), .int .i64 1] W fun e w' => (e = .returned (.int .i64 2) ∧ (rqK s).2.short = false ∧ RT w' B (rqK s).2 ∧ But B W w') ∨ (e = .panicked dcdP ∧ (rqN s).2.short = true ∧ But B W w')) := fun W h => by
    refine (numDr_any B _ 1 W h (by omega) hs).mono ?_
    have e0 : numR 1 ⟨s, false⟩ = rqK s := by rw [rqK]
    rw [e0, hk, wrapN_small (by omega)]
    rintro e w' (⟨a, b, c⟩ | ⟨a, b, c⟩)
    · exact Or.inl ⟨a, b, c⟩
    · exact Or.inr ⟨a, sK b, c⟩
  have H4 : Hid (∀ W, RT W B (rqM s).2 → Calls Tryd.prog 47 #[.pointer (some ⟨B, 0, none⟩), .int .i64 8] W fun e w' => (e = .returned (.int .i64 (rqN s).1) ∧ (rqN s).2.short = false ∧ RT w' B (rqN s).2 ∧ But B W w') ∨ (e = .panicked dcdP ∧ (rqN s).2.short = true ∧ But B W w')) := fun W h => by
    refine (numDr_any B _ 8 W h (by omega) zM).mono ?_
    have q1 : (rqN s).1 = wrapN (numR 8 (rqM s).2).1 := by rw [eN]
    have q2 : (rqN s).2 = (numR 8 (rqM s).2).2 := by rw [eN]
    rw [q1, q2]
    rintro e w' (⟨a, b, c⟩ | ⟨a, b, c⟩)
    · exact Or.inl ⟨a, b, c⟩
    · exact Or.inr ⟨a, b, c⟩
  have HOK : Hid (∀ av cap w', (rqN s).2.short = false → SmpsOwn w' w.heap.size av (rqS s).1 → But B w w' → RqOut B s w (.returned (.agg #[.int .i64 2, .string (rqT s).1, .string (rqM s).1, .int .i64 (rqN s).1, .slice av (rqS s).1.length cap])) w') := fun av cap w' h1 h2 h3 => by
    refine Or.inl ⟨⟨⟨by omega, by omega⟩, h1⟩, av, cap, ?_, h2, h3⟩
    rw [hk2]
  have HBAD : Hid (∀ w', (rqN s).2.short = true → But B w w' → RqOut B s w (.panicked dcdP) w') := fun w' h h2 => Or.inr ⟨fun q => absurd (q.2.symm.trans h) (by decide), rfl, h2⟩
  have cT1 : (rqT s).1 = ByteArray.empty := by rw [eT]
  have cT2 : (rqT s).2 = (rqK s).2 := by rw [eT]
  have cS1 : (rqS s).1 = [] := by rw [eS]
  have cS2 : (rqS s).2 = (rqT s).2 := by rw [eS]
  have cM1 : (rqM s).1 = ByteArray.empty := by rw [eM]
  have cM2 : (rqM s).2 = (rqS s).2 := by rw [eM]
  clear eT eS eM eN sM sS sT sK zK zT zS zM
  try rw [cM1] at H0
  try rw [cM1] at H4
  try rw [cM1] at HOK
  try rw [cM1] at HBAD
  try rw [cM2] at H0
  try rw [cM2] at H4
  try rw [cM2] at HOK
  try rw [cM2] at HBAD
  try rw [cS1] at H0
  try rw [cS1] at H4
  try rw [cS1] at HOK
  try rw [cS1] at HBAD
  try rw [cS2] at H0
  try rw [cS2] at H4
  try rw [cS2] at HOK
  try rw [cS2] at HBAD
  try rw [cT1] at H0
  try rw [cT1] at H4
  try rw [cT1] at HOK
  try rw [cT1] at HBAD
  try rw [cT2] at H0
  try rw [cT2] at H4
  try rw [cT2] at HOK
  try rw [cT2] at HBAD
  clear cM1 cM2 cS1 cS2 cT1 cT2
  have HTB : Hid (ShTab w) := hT
  clear hB hT hk2 hs
  generalize RqOut B s w = Post at *
  have HIK : Hid (∀ W, Calls Tryd.prog 17 #[.int .i64 2] W fun e w' => e = .returned (.bool true) ∧ Below W.heap.size W w') := fun W => isKind_any 2 W
  go_enter Tryd.func26, Tryd.ntmps26
  go_wp2_with fail
  refine (H0.out _ (HB.out.laterL (bnew _ _))).mono ?_
  rintro e w1 (⟨rfl, hs1, hr1, hb1⟩ | ⟨rfl, hsh, hb1⟩)
  rotate_left
  · exact ⟨rfl, HBAD.out _ hsh ((But.of (bnew _ _)).trans hb1)⟩
  have K1 : Hid (Blk w1 w.heap.size #[.int .i64 0, .string ByteArray.empty, .string ByteArray.empty, .int .i64 0, .slice none 0 0] 29 ∧ RT w1 B (rqK s).2 ∧ But B w w1 ∧ (rqK s).2.short = false) := ⟨Blk.but (Blk.new _ _ _) hb1 (by omega), hr1, (But.of (bnew _ _)).trans hb1, hs1⟩
  have hR12 : w.heap.size < w1.heap.size := lt_of_block K1.out.1
  clear hs1 hr1 hb1 HB H0
  go_wp2_with fail
  refine (HIK.out _).mono ?_
  rintro e w2 ⟨rfl, hb2⟩
  have K2 : Hid (Blk w2 w.heap.size #[.int .i64 0, .string ByteArray.empty, .string ByteArray.empty, .int .i64 0, .slice none 0 0] 29 ∧ RT w2 B (rqK s).2 ∧ But B w w2 ∧ Blk w2 w1.heap.size #[.int .i64 2, .string ByteArray.empty, .string ByteArray.empty, .int .i64 0, .slice none 0 0] 29) := ⟨(K1.out.1.alloc _).later hb2, (K1.out.2.1.laterL (bnew _ _)).laterL hb2, (K1.out.2.2.1.trans (But.of (bnew _ _))).trans (But.of hb2), (Blk.new _ _ _).later hb2⟩
  have HT2 : Hid (ShTab w2) := HTB.out.but K2.out.2.2.1 hBG
  have hR23 : w1.heap.size < w2.heap.size := lt_of_block K2.out.2.2.2
  have r0 : w2.cell? ⟨w1.heap.size, 0, none⟩ = some (.int .i64 2) := K2.out.2.2.2.cell 0
  have t0 : w2.cell? ⟨0, 10, none⟩ = some (.bool false) := HT2.out.2 2 0 (by omega) (by omega)
  have t1 : w2.cell? ⟨0, 11, none⟩ = some (.bool false) := HT2.out.2 2 1 (by omega) (by omega)
  have t2 : w2.cell? ⟨0, 12, none⟩ = some (.bool false) := HT2.out.2 2 2 (by omega) (by omega)
  have t3 : w2.cell? ⟨0, 13, none⟩ = some (.bool true) := HT2.out.2 2 3 (by omega) (by omega)
  have t4 : w2.cell? ⟨0, 14, none⟩ = some (.bool true) := HT2.out.2 2 4 (by omega) (by omega)
  clear hb2
  go_wp2_with fail
  refine (must_ok _ _).mono ?_
  rintro e wx ⟨rfl, hw⟩
  replace hw := hw.symm
  subst hw
  go_upto_region 4 with fail
  have G1 : Hid (GQ w (w2.alloc (.cells #[.bool false, .bool false, .bool false, .bool true, .bool true] 43)) B w1.heap.size w2.heap.size #[.int .i64 2, .string ByteArray.empty, .string ByteArray.empty, .int .i64 0, .slice none 0 0] #[.bool false, .bool false, .bool false, .bool true, .bool true] (rqK s).2) := ⟨K2.out.1.alloc _, K2.out.2.2.2.alloc _, Blk.new _ _ _, K2.out.2.1.laterL (bnew _ _), K2.out.2.2.1.trans (But.of (bnew _ _)), hR12, hR23⟩
  have HS1 : Hid ((rqK s).2.short = false) := K1.out.2.2.2
  clear K1 K2 HT2 HTB r0 t0 t1 t2 t3 t4 HIK
  generalize w2.alloc (.cells #[.bool false, .bool false, .bool false, .bool true, .bool true] 43) = W1 at *
  generalize w2.heap.size = R3 at *
  generalize w1.heap.size = R2 at *
  clear w1 w2
  have h0 : W1.cell? ⟨R3, 0, none⟩ = some (.bool false) := G1.out.2.2.1.cell 0
  have h1 : W1.cell? ⟨R3, 1, none⟩ = some (.bool false) := G1.out.2.2.1.cell 1
  have h2 : W1.cell? ⟨R3, 2, none⟩ = some (.bool false) := G1.out.2.2.1.cell 2
  have h3 : W1.cell? ⟨R3, 3, none⟩ = some (.bool true) := G1.out.2.2.1.cell 3
  go_wp2_with fail
  refine (H4.out _ G1.out.2.2.2.1).mono ?_
  rintro e x2 (⟨rfl, hs5, hr5, hb5⟩ | ⟨rfl, hsh, hb5⟩)
  rotate_left
  · exact ⟨rfl, HBAD.out _ hsh (G1.out.2.2.2.2.1.trans hb5)⟩
  have J2 : Hid (GQ w x2 B R2 R3 #[.int .i64 2, .string ByteArray.empty, .string ByteArray.empty, .int .i64 0, .slice none 0 0] #[.bool false, .bool false, .bool false, .bool true, .bool true] (rqN s).2) := G1.out.turn hBw hb5 hr5
  have HS2 : Hid ((rqN s).2.short = false) := hs5
  have c0 : x2.cell? ⟨R2, 3, none⟩ = some (.int .i64 0) := J2.out.2.1.cell 3
  have c1 := J2.out.2.1.free 3
  clear hs5 hr5 hb5 G1 h0 h1 h2 h3 H4
  go_upto_region 12 with fail
  have G2 := hid (J2.out.set hBw 3 (.int .i64 (rqN s).1))
  clear c0 c1 J2
  generalize x2.setCell ⟨R2, 3, none⟩ (.int .i64 (rqN s).1) = W2 at *
  clear x2
  replace G2 : Hid (GQ w W2 B R2 R3 #[.int .i64 2, .string ByteArray.empty, .string ByteArray.empty, .int .i64 (rqN s).1, .slice none 0 0] #[.bool false, .bool false, .bool false, .bool true, .bool true] (rqN s).2) := G2
  have h0 : W2.cell? ⟨R3, 0, none⟩ = some (.bool false) := G2.out.2.2.1.cell 0
  have h1 : W2.cell? ⟨R3, 1, none⟩ = some (.bool false) := G2.out.2.2.1.cell 1
  have h2 : W2.cell? ⟨R3, 2, none⟩ = some (.bool false) := G2.out.2.2.1.cell 2
  have h3 : W2.cell? ⟨R3, 3, none⟩ = some (.bool true) := G2.out.2.2.1.cell 3
  have x0c : W2.cell? ⟨R2, 0, none⟩ = some (.int .i64 2) := G2.out.2.1.cell 0
  have x1c : W2.cell? ⟨R2, 1, none⟩ = some (.string ByteArray.empty) := G2.out.2.1.cell 1
  have x2c : W2.cell? ⟨R2, 2, none⟩ = some (.string ByteArray.empty) := G2.out.2.1.cell 2
  have x3c : W2.cell? ⟨R2, 3, none⟩ = some (.int .i64 (rqN s).1) := G2.out.2.1.cell 3
  have x4c : W2.cell? ⟨R2, 4, none⟩ = some (.slice none 0 0) := G2.out.2.1.cell 4
  have y0 : W2.cell? ⟨w.heap.size, 0, none⟩ = some (.int .i64 0) := G2.out.1.cell 0
  have f0 := G2.out.1.free 0
  have y1 : W2.cell? ⟨w.heap.size, 1, none⟩ = some (.string ByteArray.empty) := G2.out.1.cell 1
  have f1 := G2.out.1.free 1
  have y2 : W2.cell? ⟨w.heap.size, 2, none⟩ = some (.string ByteArray.empty) := G2.out.1.cell 2
  have f2 := G2.out.1.free 2
  have y3 : W2.cell? ⟨w.heap.size, 3, none⟩ = some (.int .i64 0) := G2.out.1.cell 3
  have f3 := G2.out.1.free 3
  have y4 : W2.cell? ⟨w.heap.size, 4, none⟩ = some (.slice none 0 0) := G2.out.1.cell 4
  have f4 := G2.out.1.free 4
  have BW : Hid (But B w W2) := G2.out.2.2.2.2.1
  go_wp2
  refine bodyPost_ret (v := .agg #[.int .i64 2, .string ByteArray.empty, .string ByteArray.empty, .int .i64 (rqN s).1, .slice none 0 0]) (by simp [results, Tryd.results26, go_sem, y0, y1, y2, y3, y4]) rfl (HOK.out none 0 _ HS2.out (Or.inl rfl) ?_)
  exact BW.out.upR ((((((Below.refl _ _).setCell (by simp) _).setCell (by simp) _).setCell (by simp) _).setCell (by simp) _).setCell (by simp) _)

set_option maxRecDepth 100000 in
set_option maxHeartbeats 8000000 in
theorem reqD3_any (B : Nat) (s : ByteArray) (w : World) (hB : RT w B ⟨s, false⟩) (hs : s.size ≤ 1000000000) (hT : ShTab w) (hBG : 0 ≠ B) (hk : (rqK s).1 = 3) :
    Calls Tryd.prog 26 #[.pointer (some ⟨B, 0, none⟩)] w fun e w' => RqOut B s w e w' := by
  have hBw : B < w.heap.size := by obtain ⟨t, h⟩ := hB; exact lt_of_block h
  have HB : Hid (RT w B ⟨s, false⟩) := hB
  have hk2 : (((rqK s).1 : Nat) : Int) = 3 := by rw [hk]; rfl
  have eT : rqT s = textR 1 (rqK s).2 := by rw [rqT, hk2]; exact if_pos (by decide)
  have eS : rqS s = ([], (rqT s).2) := by rw [rqS]; exact if_neg (by omega)
  have eM : rqM s = textR 2 (rqS s).2 := by rw [rqM, hk2]; exact if_pos (by decide)
  have eN : rqN s = (wrapN (numR 8 (rqM s).2).1, (numR 8 (rqM s).2).2) := by rw [rqN, hk2]; exact if_pos (by decide)
  have sM : (rqM s).2.short = true → (rqN s).2.short = true := fun h => by rw [eN]; exact num_short h
  have sS : (rqS s).2.short = true → (rqN s).2.short = true := fun h => sM (by rw [eM]; exact text_short h)
  have sT : (rqT s).2.short = true → (rqN s).2.short = true := fun h => sS (by rw [eS]; exact h)
  have sK : (rqK s).2.short = true → (rqN s).2.short = true := fun h => sT (by rw [eT]; exact text_short h)
  have zK : (rqK s).2.rest.size ≤ 1000000000 := by rw [rqK]; exact Nat.le_trans (numr_le 1 ⟨s, false⟩) hs
  have zT : (rqT s).2.rest.size ≤ 1000000000 := by rw [eT]; exact Nat.le_trans (text_le 1 _).2 zK
  have zS : (rqS s).2.rest.size ≤ 1000000000 := by rw [eS]; exact zT
  have zM : (rqM s).2.rest.size ≤ 1000000000 := by rw [eM]; exact Nat.le_trans (text_le 2 _).2 zS
  have H0 : Hid (∀ W, RT W B ⟨s, false⟩ → Calls Tryd.prog 47 #[.pointer (some ⟨B, 0, none⟩), .int .i64 1] W fun e w' => (e = .returned (.int .i64 3) ∧ (rqK s).2.short = false ∧ RT w' B (rqK s).2 ∧ But B W w') ∨ (e = .panicked dcdP ∧ (rqN s).2.short = true ∧ But B W w')) := fun W h => by
    refine (numDr_any B _ 1 W h (by omega) hs).mono ?_
    have e0 : numR 1 ⟨s, false⟩ = rqK s := by rw [rqK]
    rw [e0, hk, wrapN_small (by omega)]
    rintro e w' (⟨a, b, c⟩ | ⟨a, b, c⟩)
    · exact Or.inl ⟨a, b, c⟩
    · exact Or.inr ⟨a, sK b, c⟩
  have H1 : Hid (∀ W, RT W B (rqK s).2 → Calls Tryd.prog 48 #[.pointer (some ⟨B, 0, none⟩), .int .i64 1] W fun e w' => (e = .returned (.string (rqT s).1) ∧ (rqT s).2.short = false ∧ RT w' B (rqT s).2 ∧ But B W w') ∨ (e = .panicked dcdP ∧ (rqN s).2.short = true ∧ But B W w')) := fun W h => by
    refine (strDr_any B _ 1 W h (by omega) zK).mono ?_
    rw [← eT]
    rintro e w' (⟨a, b, c⟩ | ⟨a, b, c⟩)
    · exact Or.inl ⟨a, b, c⟩
    · exact Or.inr ⟨a, sT b, c⟩
  have H3 : Hid (∀ W, RT W B (rqS s).2 → Calls Tryd.prog 48 #[.pointer (some ⟨B, 0, none⟩), .int .i64 2] W fun e w' => (e = .returned (.string (rqM s).1) ∧ (rqM s).2.short = false ∧ RT w' B (rqM s).2 ∧ But B W w') ∨ (e = .panicked dcdP ∧ (rqN s).2.short = true ∧ But B W w')) := fun W h => by
    refine (strDr_any B _ 2 W h (by omega) zS).mono ?_
    rw [← eM]
    rintro e w' (⟨a, b, c⟩ | ⟨a, b, c⟩)
    · exact Or.inl ⟨a, b, c⟩
    · exact Or.inr ⟨a, sM b, c⟩
  have H4 : Hid (∀ W, RT W B (rqM s).2 → Calls Tryd.prog 47 #[.pointer (some ⟨B, 0, none⟩), .int .i64 8] W fun e w' => (e = .returned (.int .i64 (rqN s).1) ∧ (rqN s).2.short = false ∧ RT w' B (rqN s).2 ∧ But B W w') ∨ (e = .panicked dcdP ∧ (rqN s).2.short = true ∧ But B W w')) := fun W h => by
    refine (numDr_any B _ 8 W h (by omega) zM).mono ?_
    have q1 : (rqN s).1 = wrapN (numR 8 (rqM s).2).1 := by rw [eN]
    have q2 : (rqN s).2 = (numR 8 (rqM s).2).2 := by rw [eN]
    rw [q1, q2]
    rintro e w' (⟨a, b, c⟩ | ⟨a, b, c⟩)
    · exact Or.inl ⟨a, b, c⟩
    · exact Or.inr ⟨a, b, c⟩
  have HOK : Hid (∀ av cap w', (rqN s).2.short = false → SmpsOwn w' w.heap.size av (rqS s).1 → But B w w' → RqOut B s w (.returned (.agg #[.int .i64 3, .string (rqT s).1, .string (rqM s).1, .int .i64 (rqN s).1, .slice av (rqS s).1.length cap])) w') := fun av cap w' h1 h2 h3 => by
    refine Or.inl ⟨⟨⟨by omega, by omega⟩, h1⟩, av, cap, ?_, h2, h3⟩
    rw [hk2]
  have HBAD : Hid (∀ w', (rqN s).2.short = true → But B w w' → RqOut B s w (.panicked dcdP) w') := fun w' h h2 => Or.inr ⟨fun q => absurd (q.2.symm.trans h) (by decide), rfl, h2⟩
  have cS1 : (rqS s).1 = [] := by rw [eS]
  have cS2 : (rqS s).2 = (rqT s).2 := by rw [eS]
  clear eT eS eM eN sM sS sT sK zK zT zS zM
  try rw [cS1] at H0
  try rw [cS1] at H1
  try rw [cS1] at H3
  try rw [cS1] at H4
  try rw [cS1] at HOK
  try rw [cS1] at HBAD
  try rw [cS2] at H0
  try rw [cS2] at H1
  try rw [cS2] at H3
  try rw [cS2] at H4
  try rw [cS2] at HOK
  try rw [cS2] at HBAD
  clear cS1 cS2
  have HTB : Hid (ShTab w) := hT
  clear hB hT hk2 hs
  generalize RqOut B s w = Post at *
  have HIK : Hid (∀ W, Calls Tryd.prog 17 #[.int .i64 3] W fun e w' => e = .returned (.bool true) ∧ Below W.heap.size W w') := fun W => isKind_any 3 W
  go_enter Tryd.func26, Tryd.ntmps26
  go_wp2_with fail
  refine (H0.out _ (HB.out.laterL (bnew _ _))).mono ?_
  rintro e w1 (⟨rfl, hs1, hr1, hb1⟩ | ⟨rfl, hsh, hb1⟩)
  rotate_left
  · exact ⟨rfl, HBAD.out _ hsh ((But.of (bnew _ _)).trans hb1)⟩
  have K1 : Hid (Blk w1 w.heap.size #[.int .i64 0, .string ByteArray.empty, .string ByteArray.empty, .int .i64 0, .slice none 0 0] 29 ∧ RT w1 B (rqK s).2 ∧ But B w w1 ∧ (rqK s).2.short = false) := ⟨Blk.but (Blk.new _ _ _) hb1 (by omega), hr1, (But.of (bnew _ _)).trans hb1, hs1⟩
  have hR12 : w.heap.size < w1.heap.size := lt_of_block K1.out.1
  clear hs1 hr1 hb1 HB H0
  go_wp2_with fail
  refine (HIK.out _).mono ?_
  rintro e w2 ⟨rfl, hb2⟩
  have K2 : Hid (Blk w2 w.heap.size #[.int .i64 0, .string ByteArray.empty, .string ByteArray.empty, .int .i64 0, .slice none 0 0] 29 ∧ RT w2 B (rqK s).2 ∧ But B w w2 ∧ Blk w2 w1.heap.size #[.int .i64 3, .string ByteArray.empty, .string ByteArray.empty, .int .i64 0, .slice none 0 0] 29) := ⟨(K1.out.1.alloc _).later hb2, (K1.out.2.1.laterL (bnew _ _)).laterL hb2, (K1.out.2.2.1.trans (But.of (bnew _ _))).trans (But.of hb2), (Blk.new _ _ _).later hb2⟩
  have HT2 : Hid (ShTab w2) := HTB.out.but K2.out.2.2.1 hBG
  have hR23 : w1.heap.size < w2.heap.size := lt_of_block K2.out.2.2.2
  have r0 : w2.cell? ⟨w1.heap.size, 0, none⟩ = some (.int .i64 3) := K2.out.2.2.2.cell 0
  have t0 : w2.cell? ⟨0, 15, none⟩ = some (.bool true) := HT2.out.2 3 0 (by omega) (by omega)
  have t1 : w2.cell? ⟨0, 16, none⟩ = some (.bool false) := HT2.out.2 3 1 (by omega) (by omega)
  have t2 : w2.cell? ⟨0, 17, none⟩ = some (.bool true) := HT2.out.2 3 2 (by omega) (by omega)
  have t3 : w2.cell? ⟨0, 18, none⟩ = some (.bool true) := HT2.out.2 3 3 (by omega) (by omega)
  have t4 : w2.cell? ⟨0, 19, none⟩ = some (.bool true) := HT2.out.2 3 4 (by omega) (by omega)
  clear hb2
  go_wp2_with fail
  refine (must_ok _ _).mono ?_
  rintro e wx ⟨rfl, hw⟩
  replace hw := hw.symm
  subst hw
  go_upto_region 4 with fail
  have G1 : Hid (GQ w (w2.alloc (.cells #[.bool true, .bool false, .bool true, .bool true, .bool true] 43)) B w1.heap.size w2.heap.size #[.int .i64 3, .string ByteArray.empty, .string ByteArray.empty, .int .i64 0, .slice none 0 0] #[.bool true, .bool false, .bool true, .bool true, .bool true] (rqK s).2) := ⟨K2.out.1.alloc _, K2.out.2.2.2.alloc _, Blk.new _ _ _, K2.out.2.1.laterL (bnew _ _), K2.out.2.2.1.trans (But.of (bnew _ _)), hR12, hR23⟩
  have HS1 : Hid ((rqK s).2.short = false) := K1.out.2.2.2
  clear K1 K2 HT2 HTB r0 t0 t1 t2 t3 t4 HIK
  generalize w2.alloc (.cells #[.bool true, .bool false, .bool true, .bool true, .bool true] 43) = W1 at *
  generalize w2.heap.size = R3 at *
  generalize w1.heap.size = R2 at *
  clear w1 w2
  have h0 : W1.cell? ⟨R3, 0, none⟩ = some (.bool true) := G1.out.2.2.1.cell 0
  have h1 : W1.cell? ⟨R3, 1, none⟩ = some (.bool false) := G1.out.2.2.1.cell 1
  have h2 : W1.cell? ⟨R3, 2, none⟩ = some (.bool true) := G1.out.2.2.1.cell 2
  have h3 : W1.cell? ⟨R3, 3, none⟩ = some (.bool true) := G1.out.2.2.1.cell 3
  go_wp2_with fail
  refine (H1.out _ G1.out.2.2.2.1).mono ?_
  rintro e x2 (⟨rfl, hs5, hr5, hb5⟩ | ⟨rfl, hsh, hb5⟩)
  rotate_left
  · exact ⟨rfl, HBAD.out _ hsh (G1.out.2.2.2.2.1.trans hb5)⟩
  have J2 : Hid (GQ w x2 B R2 R3 #[.int .i64 3, .string ByteArray.empty, .string ByteArray.empty, .int .i64 0, .slice none 0 0] #[.bool true, .bool false, .bool true, .bool true, .bool true] (rqT s).2) := G1.out.turn hBw hb5 hr5
  have HS2 : Hid ((rqT s).2.short = false) := hs5
  have c0 : x2.cell? ⟨R2, 1, none⟩ = some (.string ByteArray.empty) := J2.out.2.1.cell 1
  have c1 := J2.out.2.1.free 1
  clear hs5 hr5 hb5 G1 h0 h1 h2 h3 H1
  go_upto_region 6 with fail
  have G2 := hid (J2.out.set hBw 1 (.string (rqT s).1))
  clear c0 c1 J2
  generalize x2.setCell ⟨R2, 1, none⟩ (.string (rqT s).1) = W2 at *
  clear x2
  replace G2 : Hid (GQ w W2 B R2 R3 #[.int .i64 3, .string (rqT s).1, .string ByteArray.empty, .int .i64 0, .slice none 0 0] #[.bool true, .bool false, .bool true, .bool true, .bool true] (rqT s).2) := G2
  have h0 : W2.cell? ⟨R3, 0, none⟩ = some (.bool true) := G2.out.2.2.1.cell 0
  have h1 : W2.cell? ⟨R3, 1, none⟩ = some (.bool false) := G2.out.2.2.1.cell 1
  have h2 : W2.cell? ⟨R3, 2, none⟩ = some (.bool true) := G2.out.2.2.1.cell 2
  have h3 : W2.cell? ⟨R3, 3, none⟩ = some (.bool true) := G2.out.2.2.1.cell 3
  go_wp2_with fail
  refine (H3.out _ G2.out.2.2.2.1).mono ?_
  rintro e x3 (⟨rfl, hs5, hr5, hb5⟩ | ⟨rfl, hsh, hb5⟩)
  rotate_left
  · exact ⟨rfl, HBAD.out _ hsh (G2.out.2.2.2.2.1.trans hb5)⟩
  have J3 : Hid (GQ w x3 B R2 R3 #[.int .i64 3, .string (rqT s).1, .string ByteArray.empty, .int .i64 0, .slice none 0 0] #[.bool true, .bool false, .bool true, .bool true, .bool true] (rqM s).2) := G2.out.turn hBw hb5 hr5
  have HS3 : Hid ((rqM s).2.short = false) := hs5
  have c0 : x3.cell? ⟨R2, 2, none⟩ = some (.string ByteArray.empty) := J3.out.2.1.cell 2
  have c1 := J3.out.2.1.free 2
  clear hs5 hr5 hb5 G2 h0 h1 h2 h3 H3
  go_upto_region 10 with fail
  have G3 := hid (J3.out.set hBw 2 (.string (rqM s).1))
  clear c0 c1 J3
  generalize x3.setCell ⟨R2, 2, none⟩ (.string (rqM s).1) = W3 at *
  clear x3
  replace G3 : Hid (GQ w W3 B R2 R3 #[.int .i64 3, .string (rqT s).1, .string (rqM s).1, .int .i64 0, .slice none 0 0] #[.bool true, .bool false, .bool true, .bool true, .bool true] (rqM s).2) := G3
  have h0 : W3.cell? ⟨R3, 0, none⟩ = some (.bool true) := G3.out.2.2.1.cell 0
  have h1 : W3.cell? ⟨R3, 1, none⟩ = some (.bool false) := G3.out.2.2.1.cell 1
  have h2 : W3.cell? ⟨R3, 2, none⟩ = some (.bool true) := G3.out.2.2.1.cell 2
  have h3 : W3.cell? ⟨R3, 3, none⟩ = some (.bool true) := G3.out.2.2.1.cell 3
  go_wp2_with fail
  refine (H4.out _ G3.out.2.2.2.1).mono ?_
  rintro e x4 (⟨rfl, hs5, hr5, hb5⟩ | ⟨rfl, hsh, hb5⟩)
  rotate_left
  · exact ⟨rfl, HBAD.out _ hsh (G3.out.2.2.2.2.1.trans hb5)⟩
  have J4 : Hid (GQ w x4 B R2 R3 #[.int .i64 3, .string (rqT s).1, .string (rqM s).1, .int .i64 0, .slice none 0 0] #[.bool true, .bool false, .bool true, .bool true, .bool true] (rqN s).2) := G3.out.turn hBw hb5 hr5
  have HS4 : Hid ((rqN s).2.short = false) := hs5
  have c0 : x4.cell? ⟨R2, 3, none⟩ = some (.int .i64 0) := J4.out.2.1.cell 3
  have c1 := J4.out.2.1.free 3
  clear hs5 hr5 hb5 G3 h0 h1 h2 h3 H4
  go_upto_region 12 with fail
  have G4 := hid (J4.out.set hBw 3 (.int .i64 (rqN s).1))
  clear c0 c1 J4
  generalize x4.setCell ⟨R2, 3, none⟩ (.int .i64 (rqN s).1) = W4 at *
  clear x4
  replace G4 : Hid (GQ w W4 B R2 R3 #[.int .i64 3, .string (rqT s).1, .string (rqM s).1, .int .i64 (rqN s).1, .slice none 0 0] #[.bool true, .bool false, .bool true, .bool true, .bool true] (rqN s).2) := G4
  have h0 : W4.cell? ⟨R3, 0, none⟩ = some (.bool true) := G4.out.2.2.1.cell 0
  have h1 : W4.cell? ⟨R3, 1, none⟩ = some (.bool false) := G4.out.2.2.1.cell 1
  have h2 : W4.cell? ⟨R3, 2, none⟩ = some (.bool true) := G4.out.2.2.1.cell 2
  have h3 : W4.cell? ⟨R3, 3, none⟩ = some (.bool true) := G4.out.2.2.1.cell 3
  have x0c : W4.cell? ⟨R2, 0, none⟩ = some (.int .i64 3) := G4.out.2.1.cell 0
  have x1c : W4.cell? ⟨R2, 1, none⟩ = some (.string (rqT s).1) := G4.out.2.1.cell 1
  have x2c : W4.cell? ⟨R2, 2, none⟩ = some (.string (rqM s).1) := G4.out.2.1.cell 2
  have x3c : W4.cell? ⟨R2, 3, none⟩ = some (.int .i64 (rqN s).1) := G4.out.2.1.cell 3
  have x4c : W4.cell? ⟨R2, 4, none⟩ = some (.slice none 0 0) := G4.out.2.1.cell 4
  have y0 : W4.cell? ⟨w.heap.size, 0, none⟩ = some (.int .i64 0) := G4.out.1.cell 0
  have f0 := G4.out.1.free 0
  have y1 : W4.cell? ⟨w.heap.size, 1, none⟩ = some (.string ByteArray.empty) := G4.out.1.cell 1
  have f1 := G4.out.1.free 1
  have y2 : W4.cell? ⟨w.heap.size, 2, none⟩ = some (.string ByteArray.empty) := G4.out.1.cell 2
  have f2 := G4.out.1.free 2
  have y3 : W4.cell? ⟨w.heap.size, 3, none⟩ = some (.int .i64 0) := G4.out.1.cell 3
  have f3 := G4.out.1.free 3
  have y4 : W4.cell? ⟨w.heap.size, 4, none⟩ = some (.slice none 0 0) := G4.out.1.cell 4
  have f4 := G4.out.1.free 4
  have BW : Hid (But B w W4) := G4.out.2.2.2.2.1
  go_wp2
  refine bodyPost_ret (v := .agg #[.int .i64 3, .string (rqT s).1, .string (rqM s).1, .int .i64 (rqN s).1, .slice none 0 0]) (by simp [results, Tryd.results26, go_sem, y0, y1, y2, y3, y4]) rfl (HOK.out none 0 _ HS4.out (Or.inl rfl) ?_)
  exact BW.out.upR ((((((Below.refl _ _).setCell (by simp) _).setCell (by simp) _).setCell (by simp) _).setCell (by simp) _).setCell (by simp) _)

set_option maxRecDepth 100000 in
set_option maxHeartbeats 8000000 in
theorem reqD4_any (B : Nat) (s : ByteArray) (w : World) (hB : RT w B ⟨s, false⟩) (hs : s.size ≤ 1000000000) (hT : ShTab w) (hBG : 0 ≠ B) (hk : (rqK s).1 = 4) :
    Calls Tryd.prog 26 #[.pointer (some ⟨B, 0, none⟩)] w fun e w' => RqOut B s w e w' := by
  have hBw : B < w.heap.size := by obtain ⟨t, h⟩ := hB; exact lt_of_block h
  have HB : Hid (RT w B ⟨s, false⟩) := hB
  have hk2 : (((rqK s).1 : Nat) : Int) = 4 := by rw [hk]; rfl
  have eT : rqT s = (ByteArray.empty, (rqK s).2) := by rw [rqT, hk2]; exact if_neg (by decide)
  have eS : rqS s = ([], (rqT s).2) := by rw [rqS]; exact if_neg (by omega)
  have eM : rqM s = (ByteArray.empty, (rqS s).2) := by rw [rqM, hk2]; exact if_neg (by decide)
  have eN : rqN s = (0, (rqM s).2) := by rw [rqN, hk2]; exact if_neg (by decide)
  have sM : (rqM s).2.short = true → (rqN s).2.short = true := fun h => by rw [eN]; exact h
  have sS : (rqS s).2.short = true → (rqN s).2.short = true := fun h => sM (by rw [eM]; exact h)
  have sT : (rqT s).2.short = true → (rqN s).2.short = true := fun h => sS (by rw [eS]; exact h)
  have sK : (rqK s).2.short = true → (rqN s).2.short = true := fun h => sT (by rw [eT]; exact h)
  have zK : (rqK s).2.rest.size ≤ 1000000000 := by rw [rqK]; exact Nat.le_trans (numr_le 1 ⟨s, false⟩) hs
  have zT : (rqT s).2.rest.size ≤ 1000000000 := by rw [eT]; exact zK
  have zS : (rqS s).2.rest.size ≤ 1000000000 := by rw [eS]; exact zT
  have H0 : Hid (∀ W, RT W B ⟨s, false⟩ → Calls Tryd.prog 47 #[.pointer (some ⟨B, 0, none⟩), .int .i64 1] W fun e w' => (e = .returned (.int .i64 4) ∧ (rqK s).2.short = false ∧ RT w' B (rqK s).2 ∧ But B W w') ∨ (e = .panicked dcdP ∧ (rqN s).2.short = true ∧ But B W w')) := fun W h => by
    refine (numDr_any B _ 1 W h (by omega) hs).mono ?_
    have e0 : numR 1 ⟨s, false⟩ = rqK s := by rw [rqK]
    rw [e0, hk, wrapN_small (by omega)]
    rintro e w' (⟨a, b, c⟩ | ⟨a, b, c⟩)
    · exact Or.inl ⟨a, b, c⟩
    · exact Or.inr ⟨a, sK b, c⟩
  have HOK : Hid (∀ av cap w', (rqN s).2.short = false → SmpsOwn w' w.heap.size av (rqS s).1 → But B w w' → RqOut B s w (.returned (.agg #[.int .i64 4, .string (rqT s).1, .string (rqM s).1, .int .i64 (rqN s).1, .slice av (rqS s).1.length cap])) w') := fun av cap w' h1 h2 h3 => by
    refine Or.inl ⟨⟨⟨by omega, by omega⟩, h1⟩, av, cap, ?_, h2, h3⟩
    rw [hk2]
  have HBAD : Hid (∀ w', (rqN s).2.short = true → But B w w' → RqOut B s w (.panicked dcdP) w') := fun w' h h2 => Or.inr ⟨fun q => absurd (q.2.symm.trans h) (by decide), rfl, h2⟩
  have cT1 : (rqT s).1 = ByteArray.empty := by rw [eT]
  have cT2 : (rqT s).2 = (rqK s).2 := by rw [eT]
  have cS1 : (rqS s).1 = [] := by rw [eS]
  have cS2 : (rqS s).2 = (rqT s).2 := by rw [eS]
  have cM1 : (rqM s).1 = ByteArray.empty := by rw [eM]
  have cM2 : (rqM s).2 = (rqS s).2 := by rw [eM]
  have cN1 : (rqN s).1 = 0 := by rw [eN]
  have cN2 : (rqN s).2 = (rqM s).2 := by rw [eN]
  clear eT eS eM eN sM sS sT sK zK zT zS
  try rw [cN1] at H0
  try rw [cN1] at HOK
  try rw [cN1] at HBAD
  try rw [cN2] at H0
  try rw [cN2] at HOK
  try rw [cN2] at HBAD
  try rw [cM1] at H0
  try rw [cM1] at HOK
  try rw [cM1] at HBAD
  try rw [cM2] at H0
  try rw [cM2] at HOK
  try rw [cM2] at HBAD
  try rw [cS1] at H0
  try rw [cS1] at HOK
  try rw [cS1] at HBAD
  try rw [cS2] at H0
  try rw [cS2] at HOK
  try rw [cS2] at HBAD
  try rw [cT1] at H0
  try rw [cT1] at HOK
  try rw [cT1] at HBAD
  try rw [cT2] at H0
  try rw [cT2] at HOK
  try rw [cT2] at HBAD
  clear cN1 cN2 cM1 cM2 cS1 cS2 cT1 cT2
  have HTB : Hid (ShTab w) := hT
  clear hB hT hk2 hs
  generalize RqOut B s w = Post at *
  have HIK : Hid (∀ W, Calls Tryd.prog 17 #[.int .i64 4] W fun e w' => e = .returned (.bool true) ∧ Below W.heap.size W w') := fun W => isKind_any 4 W
  go_enter Tryd.func26, Tryd.ntmps26
  go_wp2_with fail
  refine (H0.out _ (HB.out.laterL (bnew _ _))).mono ?_
  rintro e w1 (⟨rfl, hs1, hr1, hb1⟩ | ⟨rfl, hsh, hb1⟩)
  rotate_left
  · exact ⟨rfl, HBAD.out _ hsh ((But.of (bnew _ _)).trans hb1)⟩
  have K1 : Hid (Blk w1 w.heap.size #[.int .i64 0, .string ByteArray.empty, .string ByteArray.empty, .int .i64 0, .slice none 0 0] 29 ∧ RT w1 B (rqK s).2 ∧ But B w w1 ∧ (rqK s).2.short = false) := ⟨Blk.but (Blk.new _ _ _) hb1 (by omega), hr1, (But.of (bnew _ _)).trans hb1, hs1⟩
  have hR12 : w.heap.size < w1.heap.size := lt_of_block K1.out.1
  clear hs1 hr1 hb1 HB H0
  go_wp2_with fail
  refine (HIK.out _).mono ?_
  rintro e w2 ⟨rfl, hb2⟩
  have K2 : Hid (Blk w2 w.heap.size #[.int .i64 0, .string ByteArray.empty, .string ByteArray.empty, .int .i64 0, .slice none 0 0] 29 ∧ RT w2 B (rqK s).2 ∧ But B w w2 ∧ Blk w2 w1.heap.size #[.int .i64 4, .string ByteArray.empty, .string ByteArray.empty, .int .i64 0, .slice none 0 0] 29) := ⟨(K1.out.1.alloc _).later hb2, (K1.out.2.1.laterL (bnew _ _)).laterL hb2, (K1.out.2.2.1.trans (But.of (bnew _ _))).trans (But.of hb2), (Blk.new _ _ _).later hb2⟩
  have HT2 : Hid (ShTab w2) := HTB.out.but K2.out.2.2.1 hBG
  have hR23 : w1.heap.size < w2.heap.size := lt_of_block K2.out.2.2.2
  have r0 : w2.cell? ⟨w1.heap.size, 0, none⟩ = some (.int .i64 4) := K2.out.2.2.2.cell 0
  have t0 : w2.cell? ⟨0, 20, none⟩ = some (.bool false) := HT2.out.2 4 0 (by omega) (by omega)
  have t1 : w2.cell? ⟨0, 21, none⟩ = some (.bool false) := HT2.out.2 4 1 (by omega) (by omega)
  have t2 : w2.cell? ⟨0, 22, none⟩ = some (.bool false) := HT2.out.2 4 2 (by omega) (by omega)
  have t3 : w2.cell? ⟨0, 23, none⟩ = some (.bool false) := HT2.out.2 4 3 (by omega) (by omega)
  have t4 : w2.cell? ⟨0, 24, none⟩ = some (.bool true) := HT2.out.2 4 4 (by omega) (by omega)
  clear hb2
  go_wp2_with fail
  refine (must_ok _ _).mono ?_
  rintro e wx ⟨rfl, hw⟩
  replace hw := hw.symm
  subst hw
  go_upto_region 4 with fail
  have G1 : Hid (GQ w (w2.alloc (.cells #[.bool false, .bool false, .bool false, .bool false, .bool true] 43)) B w1.heap.size w2.heap.size #[.int .i64 4, .string ByteArray.empty, .string ByteArray.empty, .int .i64 0, .slice none 0 0] #[.bool false, .bool false, .bool false, .bool false, .bool true] (rqK s).2) := ⟨K2.out.1.alloc _, K2.out.2.2.2.alloc _, Blk.new _ _ _, K2.out.2.1.laterL (bnew _ _), K2.out.2.2.1.trans (But.of (bnew _ _)), hR12, hR23⟩
  have HS1 : Hid ((rqK s).2.short = false) := K1.out.2.2.2
  clear K1 K2 HT2 HTB r0 t0 t1 t2 t3 t4 HIK
  generalize w2.alloc (.cells #[.bool false, .bool false, .bool false, .bool false, .bool true] 43) = W1 at *
  generalize w2.heap.size = R3 at *
  generalize w1.heap.size = R2 at *
  clear w1 w2
  have h0 : W1.cell? ⟨R3, 0, none⟩ = some (.bool false) := G1.out.2.2.1.cell 0
  have h1 : W1.cell? ⟨R3, 1, none⟩ = some (.bool false) := G1.out.2.2.1.cell 1
  have h2 : W1.cell? ⟨R3, 2, none⟩ = some (.bool false) := G1.out.2.2.1.cell 2
  have h3 : W1.cell? ⟨R3, 3, none⟩ = some (.bool false) := G1.out.2.2.1.cell 3
  have x0c : W1.cell? ⟨R2, 0, none⟩ = some (.int .i64 4) := G1.out.2.1.cell 0
  have x1c : W1.cell? ⟨R2, 1, none⟩ = some (.string ByteArray.empty) := G1.out.2.1.cell 1
  have x2c : W1.cell? ⟨R2, 2, none⟩ = some (.string ByteArray.empty) := G1.out.2.1.cell 2
  have x3c : W1.cell? ⟨R2, 3, none⟩ = some (.int .i64 0) := G1.out.2.1.cell 3
  have x4c : W1.cell? ⟨R2, 4, none⟩ = some (.slice none 0 0) := G1.out.2.1.cell 4
  have y0 : W1.cell? ⟨w.heap.size, 0, none⟩ = some (.int .i64 0) := G1.out.1.cell 0
  have f0 := G1.out.1.free 0
  have y1 : W1.cell? ⟨w.heap.size, 1, none⟩ = some (.string ByteArray.empty) := G1.out.1.cell 1
  have f1 := G1.out.1.free 1
  have y2 : W1.cell? ⟨w.heap.size, 2, none⟩ = some (.string ByteArray.empty) := G1.out.1.cell 2
  have f2 := G1.out.1.free 2
  have y3 : W1.cell? ⟨w.heap.size, 3, none⟩ = some (.int .i64 0) := G1.out.1.cell 3
  have f3 := G1.out.1.free 3
  have y4 : W1.cell? ⟨w.heap.size, 4, none⟩ = some (.slice none 0 0) := G1.out.1.cell 4
  have f4 := G1.out.1.free 4
  have BW : Hid (But B w W1) := G1.out.2.2.2.2.1
  go_wp2
  refine bodyPost_ret (v := .agg #[.int .i64 4, .string ByteArray.empty, .string ByteArray.empty, .int .i64 0, .slice none 0 0]) (by simp [results, Tryd.results26, go_sem, y0, y1, y2, y3, y4]) rfl (HOK.out none 0 _ HS1.out (Or.inl rfl) ?_)
  exact BW.out.upR ((((((Below.refl _ _).setCell (by simp) _).setCell (by simp) _).setCell (by simp) _).setCell (by simp) _).setCell (by simp) _)

set_option maxRecDepth 100000 in
set_option maxHeartbeats 8000000 in
theorem reqD5_any (B : Nat) (s : ByteArray) (w : World) (hB : RT w B ⟨s, false⟩) (hs : s.size ≤ 1000000000) (hT : ShTab w) (hBG : 0 ≠ B) (hk : (rqK s).1 = 5) :
    Calls Tryd.prog 26 #[.pointer (some ⟨B, 0, none⟩)] w fun e w' => RqOut B s w e w' := by
  have hBw : B < w.heap.size := by obtain ⟨t, h⟩ := hB; exact lt_of_block h
  have HB : Hid (RT w B ⟨s, false⟩) := hB
  have hk2 : (((rqK s).1 : Nat) : Int) = 5 := by rw [hk]; rfl
  have eT : rqT s = textR 1 (rqK s).2 := by rw [rqT, hk2]; exact if_pos (by decide)
  have eS : rqS s = ([], (rqT s).2) := by rw [rqS]; exact if_neg (by omega)
  have eM : rqM s = textR 2 (rqS s).2 := by rw [rqM, hk2]; exact if_pos (by decide)
  have eN : rqN s = (0, (rqM s).2) := by rw [rqN, hk2]; exact if_neg (by decide)
  have sM : (rqM s).2.short = true → (rqN s).2.short = true := fun h => by rw [eN]; exact h
  have sS : (rqS s).2.short = true → (rqN s).2.short = true := fun h => sM (by rw [eM]; exact text_short h)
  have sT : (rqT s).2.short = true → (rqN s).2.short = true := fun h => sS (by rw [eS]; exact h)
  have sK : (rqK s).2.short = true → (rqN s).2.short = true := fun h => sT (by rw [eT]; exact text_short h)
  have zK : (rqK s).2.rest.size ≤ 1000000000 := by rw [rqK]; exact Nat.le_trans (numr_le 1 ⟨s, false⟩) hs
  have zT : (rqT s).2.rest.size ≤ 1000000000 := by rw [eT]; exact Nat.le_trans (text_le 1 _).2 zK
  have zS : (rqS s).2.rest.size ≤ 1000000000 := by rw [eS]; exact zT
  have H0 : Hid (∀ W, RT W B ⟨s, false⟩ → Calls Tryd.prog 47 #[.pointer (some ⟨B, 0, none⟩), .int .i64 1] W fun e w' => (e = .returned (.int .i64 5) ∧ (rqK s).2.short = false ∧ RT w' B (rqK s).2 ∧ But B W w') ∨ (e = .panicked dcdP ∧ (rqN s).2.short = true ∧ But B W w')) := fun W h => by
    refine (numDr_any B _ 1 W h (by omega) hs).mono ?_
    have e0 : numR 1 ⟨s, false⟩ = rqK s := by rw [rqK]
    rw [e0, hk, wrapN_small (by omega)]
    rintro e w' (⟨a, b, c⟩ | ⟨a, b, c⟩)
    · exact Or.inl ⟨a, b, c⟩
    · exact Or.inr ⟨a, sK b, c⟩
  have H1 : Hid (∀ W, RT W B (rqK s).2 → Calls Tryd.prog 48 #[.pointer (some ⟨B, 0, none⟩), .int .i64 1] W fun e w' => (e = .returned (.string (rqT s).1) ∧ (rqT s).2.short = false ∧ RT w' B (rqT s).2 ∧ But B W w') ∨ (e = .panicked dcdP ∧ (rqN s).2.short = true ∧ But B W w')) := fun W h => by
    refine (strDr_any B _ 1 W h (by omega) zK).mono ?_
    rw [← eT]
    rintro e w' (⟨a, b, c⟩ | ⟨a, b, c⟩)
    · exact Or.inl ⟨a, b, c⟩
    · exact Or.inr ⟨a, sT b, c⟩
  have H3 : Hid (∀ W, RT W B (rqS s).2 → Calls Tryd.prog 48 #[.pointer (some ⟨B, 0, none⟩), .int .i64 2] W fun e w' => (e = .returned (.string (rqM s).1) ∧ (rqM s).2.short = false ∧ RT w' B (rqM s).2 ∧ But B W w') ∨ (e = .panicked dcdP ∧ (rqN s).2.short = true ∧ But B W w')) := fun W h => by
    refine (strDr_any B _ 2 W h (by omega) zS).mono ?_
    rw [← eM]
    rintro e w' (⟨a, b, c⟩ | ⟨a, b, c⟩)
    · exact Or.inl ⟨a, b, c⟩
    · exact Or.inr ⟨a, sM b, c⟩
  have HOK : Hid (∀ av cap w', (rqN s).2.short = false → SmpsOwn w' w.heap.size av (rqS s).1 → But B w w' → RqOut B s w (.returned (.agg #[.int .i64 5, .string (rqT s).1, .string (rqM s).1, .int .i64 (rqN s).1, .slice av (rqS s).1.length cap])) w') := fun av cap w' h1 h2 h3 => by
    refine Or.inl ⟨⟨⟨by omega, by omega⟩, h1⟩, av, cap, ?_, h2, h3⟩
    rw [hk2]
  have HBAD : Hid (∀ w', (rqN s).2.short = true → But B w w' → RqOut B s w (.panicked dcdP) w') := fun w' h h2 => Or.inr ⟨fun q => absurd (q.2.symm.trans h) (by decide), rfl, h2⟩
  have cS1 : (rqS s).1 = [] := by rw [eS]
  have cS2 : (rqS s).2 = (rqT s).2 := by rw [eS]
  have cN1 : (rqN s).1 = 0 := by rw [eN]
  have cN2 : (rqN s).2 = (rqM s).2 := by rw [eN]
  clear eT eS eM eN sM sS sT sK zK zT zS
  try rw [cN1] at H0
  try rw [cN1] at H1
  try rw [cN1] at H3
  try rw [cN1] at HOK
  try rw [cN1] at HBAD
  try rw [cN2] at H0
  try rw [cN2] at H1
  try rw [cN2] at H3
  try rw [cN2] at HOK
  try rw [cN2] at HBAD
  try rw [cS1] at H0
  try rw [cS1] at H1
  try rw [cS1] at H3
  try rw [cS1] at HOK
  try rw [cS1] at HBAD
  try rw [cS2] at H0
  try rw [cS2] at H1
  try rw [cS2] at H3
  try rw [cS2] at HOK
  try rw [cS2] at HBAD
  clear cN1 cN2 cS1 cS2
  have HTB : Hid (ShTab w) := hT
  clear hB hT hk2 hs
  generalize RqOut B s w = Post at *
  have HIK : Hid (∀ W, Calls Tryd.prog 17 #[.int .i64 5] W fun e w' => e = .returned (.bool true) ∧ Below W.heap.size W w') := fun W => isKind_any 5 W
  go_enter Tryd.func26, Tryd.ntmps26
  go_wp2_with fail
  refine (H0.out _ (HB.out.laterL (bnew _ _))).mono ?_
  rintro e w1 (⟨rfl, hs1, hr1, hb1⟩ | ⟨rfl, hsh, hb1⟩)
  rotate_left
  · exact ⟨rfl, HBAD.out _ hsh ((But.of (bnew _ _)).trans hb1)⟩
  have K1 : Hid (Blk w1 w.heap.size #[.int .i64 0, .string ByteArray.empty, .string ByteArray.empty, .int .i64 0, .slice none 0 0] 29 ∧ RT w1 B (rqK s).2 ∧ But B w w1 ∧ (rqK s).2.short = false) := ⟨Blk.but (Blk.new _ _ _) hb1 (by omega), hr1, (But.of (bnew _ _)).trans hb1, hs1⟩
  have hR12 : w.heap.size < w1.heap.size := lt_of_block K1.out.1
  clear hs1 hr1 hb1 HB H0
  go_wp2_with fail
  refine (HIK.out _).mono ?_
  rintro e w2 ⟨rfl, hb2⟩
  have K2 : Hid (Blk w2 w.heap.size #[.int .i64 0, .string ByteArray.empty, .string ByteArray.empty, .int .i64 0, .slice none 0 0] 29 ∧ RT w2 B (rqK s).2 ∧ But B w w2 ∧ Blk w2 w1.heap.size #[.int .i64 5, .string ByteArray.empty, .string ByteArray.empty, .int .i64 0, .slice none 0 0] 29) := ⟨(K1.out.1.alloc _).later hb2, (K1.out.2.1.laterL (bnew _ _)).laterL hb2, (K1.out.2.2.1.trans (But.of (bnew _ _))).trans (But.of hb2), (Blk.new _ _ _).later hb2⟩
  have HT2 : Hid (ShTab w2) := HTB.out.but K2.out.2.2.1 hBG
  have hR23 : w1.heap.size < w2.heap.size := lt_of_block K2.out.2.2.2
  have r0 : w2.cell? ⟨w1.heap.size, 0, none⟩ = some (.int .i64 5) := K2.out.2.2.2.cell 0
  have t0 : w2.cell? ⟨0, 25, none⟩ = some (.bool true) := HT2.out.2 5 0 (by omega) (by omega)
  have t1 : w2.cell? ⟨0, 26, none⟩ = some (.bool false) := HT2.out.2 5 1 (by omega) (by omega)
  have t2 : w2.cell? ⟨0, 27, none⟩ = some (.bool true) := HT2.out.2 5 2 (by omega) (by omega)
  have t3 : w2.cell? ⟨0, 28, none⟩ = some (.bool false) := HT2.out.2 5 3 (by omega) (by omega)
  have t4 : w2.cell? ⟨0, 29, none⟩ = some (.bool false) := HT2.out.2 5 4 (by omega) (by omega)
  clear hb2
  go_wp2_with fail
  refine (must_ok _ _).mono ?_
  rintro e wx ⟨rfl, hw⟩
  replace hw := hw.symm
  subst hw
  go_upto_region 4 with fail
  have G1 : Hid (GQ w (w2.alloc (.cells #[.bool true, .bool false, .bool true, .bool false, .bool false] 43)) B w1.heap.size w2.heap.size #[.int .i64 5, .string ByteArray.empty, .string ByteArray.empty, .int .i64 0, .slice none 0 0] #[.bool true, .bool false, .bool true, .bool false, .bool false] (rqK s).2) := ⟨K2.out.1.alloc _, K2.out.2.2.2.alloc _, Blk.new _ _ _, K2.out.2.1.laterL (bnew _ _), K2.out.2.2.1.trans (But.of (bnew _ _)), hR12, hR23⟩
  have HS1 : Hid ((rqK s).2.short = false) := K1.out.2.2.2
  clear K1 K2 HT2 HTB r0 t0 t1 t2 t3 t4 HIK
  generalize w2.alloc (.cells #[.bool true, .bool false, .bool true, .bool false, .bool false] 43) = W1 at *
  generalize w2.heap.size = R3 at *
  generalize w1.heap.size = R2 at *
  clear w1 w2
  have h0 : W1.cell? ⟨R3, 0, none⟩ = some (.bool true) := G1.out.2.2.1.cell 0
  have h1 : W1.cell? ⟨R3, 1, none⟩ = some (.bool false) := G1.out.2.2.1.cell 1
  have h2 : W1.cell? ⟨R3, 2, none⟩ = some (.bool true) := G1.out.2.2.1.cell 2
  have h3 : W1.cell? ⟨R3, 3, none⟩ = some (.bool false) := G1.out.2.2.1.cell 3
  go_wp2_with fail
  refine (H1.out _ G1.out.2.2.2.1).mono ?_
  rintro e x2 (⟨rfl, hs5, hr5, hb5⟩ | ⟨rfl, hsh, hb5⟩)
  rotate_left
  · exact ⟨rfl, HBAD.out _ hsh (G1.out.2.2.2.2.1.trans hb5)⟩
  have J2 : Hid (GQ w x2 B R2 R3 #[.int .i64 5, .string ByteArray.empty, .string ByteArray.empty, .int .i64 0, .slice none 0 0] #[.bool true, .bool false, .bool true, .bool false, .bool false] (rqT s).2) := G1.out.turn hBw hb5 hr5
  have HS2 : Hid ((rqT s).2.short = false) := hs5
  have c0 : x2.cell? ⟨R2, 1, none⟩ = some (.string ByteArray.empty) := J2.out.2.1.cell 1
  have c1 := J2.out.2.1.free 1
  clear hs5 hr5 hb5 G1 h0 h1 h2 h3 H1
  go_upto_region 6 with fail
  have G2 := hid (J2.out.set hBw 1 (.string (rqT s).1))
  clear c0 c1 J2
  generalize x2.setCell ⟨R2, 1, none⟩ (.string (rqT s).1) = W2 at *
  clear x2
  replace G2 : Hid (GQ w W2 B R2 R3 #[.int .i64 5, .string (rqT s).1, .string ByteArray.empty, .int .i64 0, .slice none 0 0] #[.bool true, .bool false, .bool true, .bool false, .bool false] (rqT s).2) := G2
  have h0 : W2.cell? ⟨R3, 0, none⟩ = some (.bool true) := G2.out.2.2.1.cell 0
  have h1 : W2.cell? ⟨R3, 1, none⟩ = some (.bool false) := G2.out.2.2.1.cell 1
  have h2 : W2.cell? ⟨R3, 2, none⟩ = some (.bool true) := G2.out.2.2.1.cell 2
  have h3 : W2.cell? ⟨R3, 3, none⟩ = some (.bool false) := G2.out.2.2.1.cell 3
  go_wp2_with fail
  refine (H3.out _ G2.out.2.2.2.1).mono ?_
  rintro e x3 (⟨rfl, hs5, hr5, hb5⟩ | ⟨rfl, hsh, hb5⟩)
  rotate_left
  · exact ⟨rfl, HBAD.out _ hsh (G2.out.2.2.2.2.1.trans hb5)⟩
  have J3 : Hid (GQ w x3 B R2 R3 #[.int .i64 5, .string (rqT s).1, .string ByteArray.empty, .int .i64 0, .slice none 0 0] #[.bool true, .bool false, .bool true, .bool false, .bool false] (rqM s).2) := G2.out.turn hBw hb5 hr5
  have HS3 : Hid ((rqM s).2.short = false) := hs5
  have c0 : x3.cell? ⟨R2, 2, none⟩ = some (.string ByteArray.empty) := J3.out.2.1.cell 2
  have c1 := J3.out.2.1.free 2
  clear hs5 hr5 hb5 G2 h0 h1 h2 h3 H3
  go_upto_region 10 with fail
  have G3 := hid (J3.out.set hBw 2 (.string (rqM s).1))
  clear c0 c1 J3
  generalize x3.setCell ⟨R2, 2, none⟩ (.string (rqM s).1) = W3 at *
  clear x3
  replace G3 : Hid (GQ w W3 B R2 R3 #[.int .i64 5, .string (rqT s).1, .string (rqM s).1, .int .i64 0, .slice none 0 0] #[.bool true, .bool false, .bool true, .bool false, .bool false] (rqM s).2) := G3
  have h0 : W3.cell? ⟨R3, 0, none⟩ = some (.bool true) := G3.out.2.2.1.cell 0
  have h1 : W3.cell? ⟨R3, 1, none⟩ = some (.bool false) := G3.out.2.2.1.cell 1
  have h2 : W3.cell? ⟨R3, 2, none⟩ = some (.bool true) := G3.out.2.2.1.cell 2
  have h3 : W3.cell? ⟨R3, 3, none⟩ = some (.bool false) := G3.out.2.2.1.cell 3
  have x0c : W3.cell? ⟨R2, 0, none⟩ = some (.int .i64 5) := G3.out.2.1.cell 0
  have x1c : W3.cell? ⟨R2, 1, none⟩ = some (.string (rqT s).1) := G3.out.2.1.cell 1
  have x2c : W3.cell? ⟨R2, 2, none⟩ = some (.string (rqM s).1) := G3.out.2.1.cell 2
  have x3c : W3.cell? ⟨R2, 3, none⟩ = some (.int .i64 0) := G3.out.2.1.cell 3
  have x4c : W3.cell? ⟨R2, 4, none⟩ = some (.slice none 0 0) := G3.out.2.1.cell 4
  have y0 : W3.cell? ⟨w.heap.size, 0, none⟩ = some (.int .i64 0) := G3.out.1.cell 0
  have f0 := G3.out.1.free 0
  have y1 : W3.cell? ⟨w.heap.size, 1, none⟩ = some (.string ByteArray.empty) := G3.out.1.cell 1
  have f1 := G3.out.1.free 1
  have y2 : W3.cell? ⟨w.heap.size, 2, none⟩ = some (.string ByteArray.empty) := G3.out.1.cell 2
  have f2 := G3.out.1.free 2
  have y3 : W3.cell? ⟨w.heap.size, 3, none⟩ = some (.int .i64 0) := G3.out.1.cell 3
  have f3 := G3.out.1.free 3
  have y4 : W3.cell? ⟨w.heap.size, 4, none⟩ = some (.slice none 0 0) := G3.out.1.cell 4
  have f4 := G3.out.1.free 4
  have BW : Hid (But B w W3) := G3.out.2.2.2.2.1
  go_wp2
  refine bodyPost_ret (v := .agg #[.int .i64 5, .string (rqT s).1, .string (rqM s).1, .int .i64 0, .slice none 0 0]) (by simp [results, Tryd.results26, go_sem, y0, y1, y2, y3, y4]) rfl (HOK.out none 0 _ HS3.out (Or.inl rfl) ?_)
  exact BW.out.upR ((((((Below.refl _ _).setCell (by simp) _).setCell (by simp) _).setCell (by simp) _).setCell (by simp) _).setCell (by simp) _)

set_option maxRecDepth 100000 in
set_option maxHeartbeats 8000000 in
theorem reqD6_any (B : Nat) (s : ByteArray) (w : World) (hB : RT w B ⟨s, false⟩) (hs : s.size ≤ 1000000000) (hT : ShTab w) (hBG : 0 ≠ B) (hk : (rqK s).1 = 6) :
    Calls Tryd.prog 26 #[.pointer (some ⟨B, 0, none⟩)] w fun e w' => RqOut B s w e w' := by
  have hBw : B < w.heap.size := by obtain ⟨t, h⟩ := hB; exact lt_of_block h
  have HB : Hid (RT w B ⟨s, false⟩) := hB
  have hk2 : (((rqK s).1 : Nat) : Int) = 6 := by rw [hk]; rfl
  have eT : rqT s = textR 1 (rqK s).2 := by rw [rqT, hk2]; exact if_pos (by decide)
  have eS : rqS s = ([], (rqT s).2) := by rw [rqS]; exact if_neg (by omega)
  have eM : rqM s = (ByteArray.empty, (rqS s).2) := by rw [rqM, hk2]; exact if_neg (by decide)
  have eN : rqN s = (0, (rqM s).2) := by rw [rqN, hk2]; exact if_neg (by decide)
  have sM : (rqM s).2.short = true → (rqN s).2.short = true := fun h => by rw [eN]; exact h
  have sS : (rqS s).2.short = true → (rqN s).2.short = true := fun h => sM (by rw [eM]; exact h)
  have sT : (rqT s).2.short = true → (rqN s).2.short = true := fun h => sS (by rw [eS]; exact h)
  have sK : (rqK s).2.short = true → (rqN s).2.short = true := fun h => sT (by rw [eT]; exact text_short h)
  have zK : (rqK s).2.rest.size ≤ 1000000000 := by rw [rqK]; exact Nat.le_trans (numr_le 1 ⟨s, false⟩) hs
  have zT : (rqT s).2.rest.size ≤ 1000000000 := by rw [eT]; exact Nat.le_trans (text_le 1 _).2 zK
  have zS : (rqS s).2.rest.size ≤ 1000000000 := by rw [eS]; exact zT
  have H0 : Hid (∀ W, RT W B ⟨s, false⟩ → Calls Tryd.prog 47 #[.pointer (some ⟨B, 0, none⟩), .int .i64 1] W fun e w' => (e = .returned (.int .i64 6) ∧ (rqK s).2.short = false ∧ RT w' B (rqK s).2 ∧ But B W w') ∨ (e = .panicked dcdP ∧ (rqN s).2.short = true ∧ But B W w')) := fun W h => by
    refine (numDr_any B _ 1 W h (by omega) hs).mono ?_
    have e0 : numR 1 ⟨s, false⟩ = rqK s := by rw [rqK]
    rw [e0, hk, wrapN_small (by omega)]
    rintro e w' (⟨a, b, c⟩ | ⟨a, b, c⟩)
    · exact Or.inl ⟨a, b, c⟩
    · exact Or.inr ⟨a, sK b, c⟩
  have H1 : Hid (∀ W, RT W B (rqK s).2 → Calls Tryd.prog 48 #[.pointer (some ⟨B, 0, none⟩), .int .i64 1] W fun e w' => (e = .returned (.string (rqT s).1) ∧ (rqT s).2.short = false ∧ RT w' B (rqT s).2 ∧ But B W w') ∨ (e = .panicked dcdP ∧ (rqN s).2.short = true ∧ But B W w')) := fun W h => by
    refine (strDr_any B _ 1 W h (by omega) zK).mono ?_
    rw [← eT]
    rintro e w' (⟨a, b, c⟩ | ⟨a, b, c⟩)
    · exact Or.inl ⟨a, b, c⟩
    · exact Or.inr ⟨a, sT b, c⟩
  have HOK : Hid (∀ av cap w', (rqN s).2.short = false → SmpsOwn w' w.heap.size av (rqS s).1 → But B w w' → RqOut B s w (.returned (.agg #[.int .i64 6, .string (rqT s).1, .string (rqM s).1, .int .i64 (rqN s).1, .slice av (rqS s).1.length cap])) w') := fun av cap w' h1 h2 h3 => by
    refine Or.inl ⟨⟨⟨by omega, by omega⟩, h1⟩, av, cap, ?_, h2, h3⟩
    rw [hk2]
  have HBAD : Hid (∀ w', (rqN s).2.short = true → But B w w' → RqOut B s w (.panicked dcdP) w') := fun w' h h2 => Or.inr ⟨fun q => absurd (q.2.symm.trans h) (by decide), rfl, h2⟩
  have cS1 : (rqS s).1 = [] := by rw [eS]
  have cS2 : (rqS s).2 = (rqT s).2 := by rw [eS]
  have cM1 : (rqM s).1 = ByteArray.empty := by rw [eM]
  have cM2 : (rqM s).2 = (rqS s).2 := by rw [eM]
  have cN1 : (rqN s).1 = 0 := by rw [eN]
  have cN2 : (rqN s).2 = (rqM s).2 := by rw [eN]
  clear eT eS eM eN sM sS sT sK zK zT zS
  try rw [cN1] at H0
  try rw [cN1] at H1
  try rw [cN1] at HOK
  try rw [cN1] at HBAD
  try rw [cN2] at H0
  try rw [cN2] at H1
  try rw [cN2] at HOK
  try rw [cN2] at HBAD
  try rw [cM1] at H0
  try rw [cM1] at H1
  try rw [cM1] at HOK
  try rw [cM1] at HBAD
  try rw [cM2] at H0
  try rw [cM2] at H1
  try rw [cM2] at HOK
  try rw [cM2] at HBAD
  try rw [cS1] at H0
  try rw [cS1] at H1
  try rw [cS1] at HOK
  try rw [cS1] at HBAD
  try rw [cS2] at H0
  try rw [cS2] at H1
  try rw [cS2] at HOK
  try rw [cS2] at HBAD
  clear cN1 cN2 cM1 cM2 cS1 cS2
  have HTB : Hid (ShTab w) := hT
  clear hB hT hk2 hs
  generalize RqOut B s w = Post at *
  have HIK : Hid (∀ W, Calls Tryd.prog 17 #[.int .i64 6] W fun e w' => e = .returned (.bool true) ∧ Below W.heap.size W w') := fun W => isKind_any 6 W
  go_enter Tryd.func26, Tryd.ntmps26
  go_wp2_with fail
  refine (H0.out _ (HB.out.laterL (bnew _ _))).mono ?_
  rintro e w1 (⟨rfl, hs1, hr1, hb1⟩ | ⟨rfl, hsh, hb1⟩)
  rotate_left
  · exact ⟨rfl, HBAD.out _ hsh ((But.of (bnew _ _)).trans hb1)⟩
  have K1 : Hid (Blk w1 w.heap.size #[.int .i64 0, .string ByteArray.empty, .string ByteArray.empty, .int .i64 0, .slice none 0 0] 29 ∧ RT w1 B (rqK s).2 ∧ But B w w1 ∧ (rqK s).2.short = false) := ⟨Blk.but (Blk.new _ _ _) hb1 (by omega), hr1, (But.of (bnew _ _)).trans hb1, hs1⟩
  have hR12 : w.heap.size < w1.heap.size := lt_of_block K1.out.1
  clear hs1 hr1 hb1 HB H0
  go_wp2_with fail
  refine (HIK.out _).mono ?_
  rintro e w2 ⟨rfl, hb2⟩
  have K2 : Hid (Blk w2 w.heap.size #[.int .i64 0, .string ByteArray.empty, .string ByteArray.empty, .int .i64 0, .slice none 0 0] 29 ∧ RT w2 B (rqK s).2 ∧ But B w w2 ∧ Blk w2 w1.heap.size #[.int .i64 6, .string ByteArray.empty, .string ByteArray.empty, .int .i64 0, .slice none 0 0] 29) := ⟨(K1.out.1.alloc _).later hb2, (K1.out.2.1.laterL (bnew _ _)).laterL hb2, (K1.out.2.2.1.trans (But.of (bnew _ _))).trans (But.of hb2), (Blk.new _ _ _).later hb2⟩
  have HT2 : Hid (ShTab w2) := HTB.out.but K2.out.2.2.1 hBG
  have hR23 : w1.heap.size < w2.heap.size := lt_of_block K2.out.2.2.2
  have r0 : w2.cell? ⟨w1.heap.size, 0, none⟩ = some (.int .i64 6) := K2.out.2.2.2.cell 0
  have t0 : w2.cell? ⟨0, 30, none⟩ = some (.bool true) := HT2.out.2 6 0 (by omega) (by omega)
  have t1 : w2.cell? ⟨0, 31, none⟩ = some (.bool false) := HT2.out.2 6 1 (by omega) (by omega)
  have t2 : w2.cell? ⟨0, 32, none⟩ = some (.bool false) := HT2.out.2 6 2 (by omega) (by omega)
  have t3 : w2.cell? ⟨0, 33, none⟩ = some (.bool false) := HT2.out.2 6 3 (by omega) (by omega)
  have t4 : w2.cell? ⟨0, 34, none⟩ = some (.bool false) := HT2.out.2 6 4 (by omega) (by omega)
  clear hb2
  go_wp2_with fail
  refine (must_ok _ _).mono ?_
  rintro e wx ⟨rfl, hw⟩
  replace hw := hw.symm
  subst hw
  go_upto_region 4 with fail
  have G1 : Hid (GQ w (w2.alloc (.cells #[.bool true, .bool false, .bool false, .bool false, .bool false] 43)) B w1.heap.size w2.heap.size #[.int .i64 6, .string ByteArray.empty, .string ByteArray.empty, .int .i64 0, .slice none 0 0] #[.bool true, .bool false, .bool false, .bool false, .bool false] (rqK s).2) := ⟨K2.out.1.alloc _, K2.out.2.2.2.alloc _, Blk.new _ _ _, K2.out.2.1.laterL (bnew _ _), K2.out.2.2.1.trans (But.of (bnew _ _)), hR12, hR23⟩
  have HS1 : Hid ((rqK s).2.short = false) := K1.out.2.2.2
  clear K1 K2 HT2 HTB r0 t0 t1 t2 t3 t4 HIK
  generalize w2.alloc (.cells #[.bool true, .bool false, .bool false, .bool false, .bool false] 43) = W1 at *
  generalize w2.heap.size = R3 at *
  generalize w1.heap.size = R2 at *
  clear w1 w2
  have h0 : W1.cell? ⟨R3, 0, none⟩ = some (.bool true) := G1.out.2.2.1.cell 0
  have h1 : W1.cell? ⟨R3, 1, none⟩ = some (.bool false) := G1.out.2.2.1.cell 1
  have h2 : W1.cell? ⟨R3, 2, none⟩ = some (.bool false) := G1.out.2.2.1.cell 2
  have h3 : W1.cell? ⟨R3, 3, none⟩ = some (.bool false) := G1.out.2.2.1.cell 3
  go_wp2_with fail
  refine (H1.out _ G1.out.2.2.2.1).mono ?_
  rintro e x2 (⟨rfl, hs5, hr5, hb5⟩ | ⟨rfl, hsh, hb5⟩)
  rotate_left
  · exact ⟨rfl, HBAD.out _ hsh (G1.out.2.2.2.2.1.trans hb5)⟩
  have J2 : Hid (GQ w x2 B R2 R3 #[.int .i64 6, .string ByteArray.empty, .string ByteArray.empty, .int .i64 0, .slice none 0 0] #[.bool true, .bool false, .bool false, .bool false, .bool false] (rqT s).2) := G1.out.turn hBw hb5 hr5
  have HS2 : Hid ((rqT s).2.short = false) := hs5
  have c0 : x2.cell? ⟨R2, 1, none⟩ = some (.string ByteArray.empty) := J2.out.2.1.cell 1
  have c1 := J2.out.2.1.free 1
  clear hs5 hr5 hb5 G1 h0 h1 h2 h3 H1
  go_upto_region 6 with fail
  have G2 := hid (J2.out.set hBw 1 (.string (rqT s).1))
  clear c0 c1 J2
  generalize x2.setCell ⟨R2, 1, none⟩ (.string (rqT s).1) = W2 at *
  clear x2
  replace G2 : Hid (GQ w W2 B R2 R3 #[.int .i64 6, .string (rqT s).1, .string ByteArray.empty, .int .i64 0, .slice none 0 0] #[.bool true, .bool false, .bool false, .bool false, .bool false] (rqT s).2) := G2
  have h0 : W2.cell? ⟨R3, 0, none⟩ = some (.bool true) := G2.out.2.2.1.cell 0
  have h1 : W2.cell? ⟨R3, 1, none⟩ = some (.bool false) := G2.out.2.2.1.cell 1
  have h2 : W2.cell? ⟨R3, 2, none⟩ = some (.bool false) := G2.out.2.2.1.cell 2
  have h3 : W2.cell? ⟨R3, 3, none⟩ = some (.bool false) := G2.out.2.2.1.cell 3
  have x0c : W2.cell? ⟨R2, 0, none⟩ = some (.int .i64 6) := G2.out.2.1.cell 0
  have x1c : W2.cell? ⟨R2, 1, none⟩ = some (.string (rqT s).1) := G2.out.2.1.cell 1
  have x2c : W2.cell? ⟨R2, 2, none⟩ = some (.string ByteArray.empty) := G2.out.2.1.cell 2
  have x3c : W2.cell? ⟨R2, 3, none⟩ = some (.int .i64 0) := G2.out.2.1.cell 3
  have x4c : W2.cell? ⟨R2, 4, none⟩ = some (.slice none 0 0) := G2.out.2.1.cell 4
  have y0 : W2.cell? ⟨w.heap.size, 0, none⟩ = some (.int .i64 0) := G2.out.1.cell 0
  have f0 := G2.out.1.free 0
  have y1 : W2.cell? ⟨w.heap.size, 1, none⟩ = some (.string ByteArray.empty) := G2.out.1.cell 1
  have f1 := G2.out.1.free 1
  have y2 : W2.cell? ⟨w.heap.size, 2, none⟩ = some (.string ByteArray.empty) := G2.out.1.cell 2
  have f2 := G2.out.1.free 2
  have y3 : W2.cell? ⟨w.heap.size, 3, none⟩ = some (.int .i64 0) := G2.out.1.cell 3
  have f3 := G2.out.1.free 3
  have y4 : W2.cell? ⟨w.heap.size, 4, none⟩ = some (.slice none 0 0) := G2.out.1.cell 4
  have f4 := G2.out.1.free 4
  have BW : Hid (But B w W2) := G2.out.2.2.2.2.1
  go_wp2
  refine bodyPost_ret (v := .agg #[.int .i64 6, .string (rqT s).1, .string ByteArray.empty, .int .i64 0, .slice none 0 0]) (by simp [results, Tryd.results26, go_sem, y0, y1, y2, y3, y4]) rfl (HOK.out none 0 _ HS2.out (Or.inl rfl) ?_)
  exact BW.out.upR ((((((Below.refl _ _).setCell (by simp) _).setCell (by simp) _).setCell (by simp) _).setCell (by simp) _).setCell (by simp) _)
end Go.Proofs.YtoecnlhnfhongaaDoor

