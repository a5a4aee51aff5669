import Derived.Test.YtgpgacncmoiefaaProg
import Derived.Test.YtgpgacncmoiefaaIDecB
import Derived.Test.YtgpgacncmoiefaaSDecB
import Derived.Test.YtgpgacncmoiefaaRecS
import Derived.Test.YtgpgacncmoiefaaRecM
namespace Go.Proofs.Ytgpgacncmoiefaa
open Go.RowKit

theorem mark_keep {W0 W w' : World} {B n p : Nat} {a : Option Addr} {xs : List RecD} {cur : Array Value} {t : TypeId} (h : Marked W w' B a n) (ho : RecsOwn W0 B a xs) (hn : xs.length = n) (hb : Blk W p cur t) (hp : W0.heap.size ≤ p) : Blk w' p cur t := by
  rcases h with ⟨_, h⟩ | ⟨hpos, g, o, rfl, _, h⟩
  · exact hb.later h
  · rcases ho with rfl | ⟨g', o', cur', t', e, _, hg, _⟩
    · simp at hn; omega
    · simp only [Option.some.injEq, Addr.mk.injEq, and_true] at e
      have := lt_of_block hg
      exact hb.but h (by omega)

theorem belowR {B : Nat} {w w' : World} {a : Option Addr} {xs : List RecD} (h : RecsIn w a xs) (hb : Below B w w') (hB : xs = [] ∨ ∃ b o, a = some ⟨b, o, none⟩ ∧ b < B) : RecsIn w' a xs := by
  rcases hB with hB | ⟨b, o, rfl, hlt⟩
  · exact Or.inl hB
  · rcases h with h | ⟨b', o', e, hlt', h⟩
    · exact Or.inl h
    · simp only [Option.some.injEq, Addr.mk.injEq, and_true] at e
      obtain ⟨rfl, rfl⟩ := e
      have hk : ∀ j, w'.cell? ⟨b, j, none⟩ = w.cell? ⟨b, j, none⟩ := fun j => World.cell?_of_block (hb.block b hlt)
      exact Or.inr ⟨b, o, rfl, Nat.lt_of_lt_of_le hlt' hb.size, fun i hi => by simp only [hk]; exact h i hi⟩
theorem decB_len (s : ByteArray) : (decB s).2.1.length ≤ 65536 := by
  by_cases h1 : (batR s).2.short = false
  · by_cases h2 : batB (wrapN (lsnR s).1) (batR s).1 = s
    · rw [dec_eq h2 h1]; have := batR_len s; simp only; omega
    · rw [dec_ne h2]; simp
  · rw [dec_short (by simpa using h1)]; simp

set_option maxRecDepth 100000 in
set_option maxHeartbeats 4000000 in
theorem lawDecBatch (s : ByteArray) (w : World) (hsz : s.size ≤ maxLen) :
    Calls Try.prog 7 #[.string s] w fun e w' => e = .returned (.bool true) ∧ Below w.heap.size w w' := by
  unfold maxLen at hsz
  by_cases hbig : (s.size : Int) > 1048576
  · go_enter Try.func7, Try.ntmps7
    go_wp2
    go_ret
    exact ⟨rfl, Below.refl _ _⟩
  have hs : s.size ≤ 1000000000 := by omega
  have hln := decB_len s
  have HSP : Hid (∀ W, Calls Try.prog 23 #[.string s] W fun e w' => ∃ av cap, e = .returned (.tuple #[.agg #[.int .i64 (decB s).1, .slice av (decB s).2.1.length cap], .bool (decB s).2.2]) ∧ RecsIn w' av (decB s).2.1 ∧ Below W.heap.size W w') := fun W => specDecB_any s W hs
  have HIM : Hid (∀ W, Calls Try.prog 24 #[.string s] W fun e w' => ∃ av cap, e = .returned (.tuple #[.agg #[.int .i64 (decB s).1, .slice av (decB s).2.1.length cap], .bool (decB s).2.2]) ∧ RecsOwn w' W.heap.size av (decB s).2.1 ∧ Below W.heap.size W w') := fun W => implDecB_any s W hs
  have HEQ : Hid (∀ W a a' c c', RecsIn W a (decB s).2.1 → RecsIn W a' (decB s).2.1 → Calls Try.prog 22 #[.agg #[.int .i64 (decB s).1, .slice a (decB s).2.1.length c], .agg #[.int .i64 (decB s).1, .slice a' (decB s).2.1.length c']] W fun e w' => e = .returned (.bool true) ∧ Below W.heap.size W w') := fun W a a' c c' h h' => eqBatch_same _ a a' c c' _ W h h' (by unfold maxLen; omega)
  have HMK : Hid (∀ W B a c, RecsOwn W B a (decB s).2.1 → Calls Try.prog 25 #[.agg #[.int .i64 (decB s).1, .slice a (decB s).2.1.length c], .int .i64 1] W fun e w' => e = .returned (.int .i64 ((1 + 4 * (decB s).2.1.length : Nat) : Int)) ∧ (∃ V, Below W.heap.size W V ∧ Marked V w' B a (decB s).2.1.length) ∧ RecsOwn w' B a (markRecs 1 (decB s).2.1.length)) := fun W B a c h => markBatch_any _ a c _ 1 B W (by omega) (by omega) h
  have HHD : Hid (∀ W a c, RecsIn W a (markRecs 1 (decB s).2.1.length) → Calls Try.prog 26 #[.agg #[.int .i64 (decB s).1, .slice a (decB s).2.1.length c], .int .i64 1] W fun e w' => e = .returned (.int .i64 ((1 + 4 * (decB s).2.1.length : Nat) : Int)) ∧ Below W.heap.size W w') := fun W a c h => heldBatch_any _ a c 1 _ W (by omega) (by omega) h
  obtain ⟨n, hn⟩ : ∃ n, n = (decB s).2.1.length := ⟨_, rfl⟩
  have HLN : Hid ((decB s).2.1.length = n) := hn.symm
  rw [← hn] at HSP HIM HEQ HMK HHD
  clear hn
  have hm0 : ¬ (((1 + 4 * n : Nat) : Int) < 0) := by omega
  have hmm : (((1 + 4 * n : Nat) : Int) != ((1 + 4 * n : Nat) : Int)) = false := by simp
  generalize ((1 + 4 * n : Nat) : Int) = N at *
  generalize markRecs 1 n = M at *
  generalize (decB s).1 = L at *
  generalize (decB s).2.2 = ok at *
  generalize (decB s).2.1 = xs at *
  have hok : (ok != ok) = false := by simp
  clear hln
  go_enter Try.func7, Try.ntmps7
  go_wp2_with fail
  refine (HSP.out _).mono ?_
  rintro e w1 ⟨a0, c0, rfl, ho1, hb1⟩
  have H1 : Hid (RecsIn w1 a0 xs ∧ Below w.heap.size w w1) := ⟨ho1, hb1⟩
  have H5 : Hid (xs = [] ∨ ∃ b o, a0 = some ⟨b, o, none⟩ ∧ b < w1.heap.size) := by
    rcases ho1 with h | ⟨b, o, h, hlt, _⟩
    · exact Or.inl h
    · exact Or.inr ⟨b, o, h, hlt⟩
  clear ho1 hb1 HSP
  go_wp2_with fail
  refine (HIM.out _).mono ?_
  rintro e w2 ⟨a1, c1, rfl, ho2, hb2⟩
  have hA : w1.heap.size + 1 ≤ w2.heap.size := by have := hb2.size; simpa using this
  have H2 : Hid (RecsOwn w2 (w1.heap.size + 1) a1 xs ∧ Blk w2 w1.heap.size #[.int .i64 L, .slice a0 n c0] 37 ∧ RecsIn w2 a0 xs ∧ Below w.heap.size w w2) := ⟨by simpa using ho2, (Blk.new _ _ _).later hb2, (H1.out.1.later (bnew _ _)).later hb2, bto (bto H1.out.2 (bnew _ _)) hb2⟩
  have hP : w.heap.size ≤ w1.heap.size := H1.out.2.size
  clear ho2 hb2 H1
  generalize w1.heap.size = P0 at *
  have x0 : (w2.alloc (.cells #[.int .i64 L, .slice a1 n c1] 37)).cell? ⟨P0, 0, none⟩ = some (.int .i64 L) := (H2.out.2.1.alloc _).cell 0
  have x1 : (w2.alloc (.cells #[.int .i64 L, .slice a1 n c1] 37)).cell? ⟨P0, 1, none⟩ = some (.slice a0 n c0) := (H2.out.2.1.alloc _).cell 1
  have hne : ¬ P0 = w2.heap.size := by omega
  go_wp2_with fail
  refine (HEQ.out _ _ _ _ _ (H2.out.1.recs.later (bnew _ _)) (H2.out.2.2.1.later (bnew _ _))).mono ?_
  rintro e w3 ⟨rfl, hb3⟩
  have H3 : Hid (RecsOwn w3 (P0 + 1) a1 xs ∧ Blk w3 P0 #[.int .i64 L, .slice a0 n c0] 37 ∧ RecsIn w3 a0 xs ∧ Below w.heap.size w w3 ∧ Blk w3 w2.heap.size #[.int .i64 L, .slice a1 n c1] 37) := ⟨(H2.out.1.later (bnew _ _)).later hb3, (H2.out.2.1.alloc _).later hb3, (H2.out.2.2.1.later (bnew _ _)).later hb3, bto (bto H2.out.2.2.2 (bnew _ _)) hb3, (Blk.new _ _ _).later hb3⟩
  have hB3 : P0 + 1 ≤ w3.heap.size := by have := lt_of_block H3.out.2.1; omega
  have y0 : w3.cell? ⟨w2.heap.size, 0, none⟩ = some (.int .i64 L) := H3.out.2.2.2.2.cell 0
  have y1 : w3.cell? ⟨w2.heap.size, 1, none⟩ = some (.slice a1 n c1) := H3.out.2.2.2.2.cell 1
  clear hb3 x0 x1
  go_wp2_with fail
  refine (HMK.out _ (P0 + 1) _ _ H3.out.1).mono ?_
  rintro e w4 ⟨rfl, ⟨V, hV, hM⟩, ho4⟩
  have hBV : Below (P0 + 1) w3 w4 := (hV.mono hB3).trans (hM.below (Nat.le_trans hB3 hV.size))
  have H4 : Hid (RecsOwn w4 (P0 + 1) a1 M ∧ Blk w4 P0 #[.int .i64 L, .slice a0 n c0] 37 ∧ RecsIn w4 a0 xs ∧ Below w.heap.size w w4 ∧ Blk w4 w2.heap.size #[.int .i64 L, .slice a1 n c1] 37) := by
    refine ⟨ho4, (hBV.block P0 (by omega)).trans H3.out.2.1, ?_, ?_, mark_keep hM H2.out.1 HLN.out (H3.out.2.2.2.2.later hV) (Nat.le_refl _)⟩
    · exact belowR H3.out.2.2.1 hBV (H5.out.imp id fun ⟨b, o, e, hlt⟩ => ⟨b, o, e, by omega⟩)
    · exact H3.out.2.2.2.1.trans (hBV.mono (by omega))
  clear hBV hV hM ho4
  have y0 : w4.cell? ⟨w2.heap.size, 0, none⟩ = some (.int .i64 L) := H4.out.2.2.2.2.cell 0
  have y1 : w4.cell? ⟨w2.heap.size, 1, none⟩ = some (.slice a1 n c1) := H4.out.2.2.2.2.cell 1
  go_wp2_with fail
  refine (HHD.out _ _ _ H4.out.1.recs).mono ?_
  rintro e w5 ⟨rfl, hb5⟩
  have B5 : Hid (Blk w5 P0 #[.int .i64 L, .slice a0 n c0] 37 ∧ RecsIn w5 a0 xs ∧ Below w.heap.size w w5) := ⟨H4.out.2.1.later hb5, H4.out.2.2.1.later hb5, bto H4.out.2.2.2.1 hb5⟩
  clear hb5
  go_wp2_with fail
  refine (HIM.out _).mono ?_
  rintro e w6 ⟨a2, c2, rfl, ho6, hb6⟩
  have H6 : Hid (RecsIn w6 a2 xs ∧ Blk w6 P0 #[.int .i64 L, .slice a0 n c0] 37 ∧ RecsIn w6 a0 xs ∧ Below w.heap.size w w6) := ⟨ho6.recs, B5.out.1.later hb6, B5.out.2.1.later hb6, bto B5.out.2.2 hb6⟩
  have z0 : (w6.alloc (.cells #[.int .i64 L, .slice a2 n c2] 37)).cell? ⟨P0, 0, none⟩ = some (.int .i64 L) := (H6.out.2.1.alloc _).cell 0
  have z1 : (w6.alloc (.cells #[.int .i64 L, .slice a2 n c2] 37)).cell? ⟨P0, 1, none⟩ = some (.slice a0 n c0) := (H6.out.2.1.alloc _).cell 1
  clear ho6 hb6
  go_wp2_with fail
  refine (HEQ.out _ _ _ _ _ (H6.out.1.later (bnew _ _)) (H6.out.2.2.1.later (bnew _ _))).mono ?_
  rintro e w7 ⟨rfl, hb7⟩
  have B7 : Hid (Below w.heap.size w w7) := bto (bto H6.out.2.2.2 (bnew _ _)) hb7
  clear hb7
  go_wp2
  go_ret
  exact ⟨rfl, B7.out⟩
end Go.Proofs.Ytgpgacncmoiefaa
