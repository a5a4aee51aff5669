import Derived.Test.YtoecnlhnfhongaaDoorProg
import Derived.Test.YtoecnlhnfhongaaDoorJ15SS8
import Derived.Test.YtoecnlhnfhongaaDoorJ18SRqW
import Derived.Test.YtoecnlhnfhongaaDoorJ13SDec
namespace Go.Proofs.YtoecnlhnfhongaaDoor
open Go.RowKit

theorem bemptyRq {x : ByteArray} : (x.toList == []) = decide (x.size = 0) := by
  rw [ByteArray.toList_eq]
  cases h : x.data.toList with
  | nil =>
    have h2 : x.size = 0 := by have : x.data.toList.length = 0 := by rw [h]; rfl
                               simpa using this
    simp [h2]
  | cons a l =>
    have h2 : x.size ≠ 0 := by have : x.data.toList.length = l.length + 1 := by rw [h]; rfl
                               simp at this; omega
    simp [h2]
/-- The request that is being read: its box, and the result's. -/
def GS (w W : World) (cs : Array Value) : Prop := Blk W (w.heap.size + 1) cs 29 ∧ Blk W w.heap.size #[.int .i64 0, .string ByteArray.empty, .string ByteArray.empty, .int .i64 0, .slice none 0 0] 29 ∧ Below w.heap.size w W
theorem GS.start (w : World) : GS w ((w.alloc (.cells #[.int .i64 0, .string ByteArray.empty, .string ByteArray.empty, .int .i64 0, .slice none 0 0] 29)).alloc (.cells #[.int .i64 0, .string ByteArray.empty, .string ByteArray.empty, .int .i64 0, .slice none 0 0] 29)) #[.int .i64 0, .string ByteArray.empty, .string ByteArray.empty, .int .i64 0, .slice none 0 0] :=
  ⟨by have := Blk.new (w.alloc (.cells #[.int .i64 0, .string ByteArray.empty, .string ByteArray.empty, .int .i64 0, .slice none 0 0] 29)) #[.int .i64 0, .string ByteArray.empty, .string ByteArray.empty, .int .i64 0, .slice none 0 0] 29; simpa using this, (Blk.new _ _ _).alloc _, bto (bnew _ _) (bnew _ _)⟩
theorem GS.set {w W : World} {cs : Array Value} (h : GS w W cs) (i : Nat) (v : Value) : GS w (W.setCell ⟨(w.heap.size + 1), i, none⟩ v) (cs.setIfInBounds i v) :=
  ⟨h.1.set i v, h.2.1.but ((But.refl (w.heap.size + 1) W).setCell i v) (by omega), h.2.2.setCell (by simp) _⟩
theorem GS.later {w W W' : World} {cs : Array Value} (h : GS w W cs) (hb : Below W.heap.size W W') : GS w W' cs := ⟨h.1.later hb, h.2.1.later hb, bto h.2.2 hb⟩

set_option maxRecDepth 100000 in
set_option maxHeartbeats 16000000 in
theorem specDecR2_any (s : ByteArray) (w : World) (hs : s.size ≤ 1048576) (hk : (lqK s).1 = 2) :
    Calls Tryd.prog 10 #[.string s] w fun e w' => DecROut s w e w' := by
  have hsL : s.size ≤ 1000000000 := by omega
  have hk2 : (((lqK s).1 : Nat) : Int) = 2 := by rw [hk]; rfl
  have eT : lqT s = (ByteArray.empty, (lqK s).2) := by rw [lqT, hk2, if_neg (by decide)]
  have eM : lqM s = (ByteArray.empty, (lqK s).2) := by rw [lqM, hk2, if_neg (by decide), eT]
  have eN : lqN s = (wrapN (lNum s 8 (lqK s).2).1, (lNum s 8 (lqK s).2).2) := by rw [lqN, hk2, if_pos (by decide), eM]
  have eS : (lqS s).1 = [] := by rw [lqS, if_neg (by omega)]
  have eR : lRq s = ⟨2, ByteArray.empty, ByteArray.empty, (lqN s).1, []⟩ := by rw [lRq, hk2, eS, eM, eT]
  have HN0 : Hid (∀ W, Calls Tryd.prog 23 #[.string s, .int .i64 0, .int .i64 1] W fun e w' => e = .returned (.tuple #[.int .i64 2, .int .i64 (posV (lqK s).2)]) ∧ w' = W) := fun W => by
    have := specNumL_any s 1 (some 0) W hsL (fun q h => by cases h; omega) (by omega)
    rw [show lNum s 1 (some 0) = lqK s from rfl, hk, wrapN_small (by omega)] at this
    exact this
  have hpK : ∀ q, (lqK s).2 = some q → q ≤ s.size := fun q h => lNum_le (s := s) (n := 1) (p := some 0) h
  have HN : Hid (∀ W, Calls Tryd.prog 23 #[.string s, .int .i64 (posV (lqK s).2), .int .i64 8] W fun e w' => e = .returned (.tuple #[.int .i64 (lqN s).1, .int .i64 (posV (lqN s).2)]) ∧ w' = W) := fun W => by
    have := specNumL_any s 8 (lqK s).2 W hsL (fun q h => by have := hpK q h; omega) (by omega)
    have q1 : (lqN s).1 = wrapN (lNum s 8 (lqK s).2).1 := by rw [eN]
    have q2 : (lqN s).2 = (lNum s 8 (lqK s).2).2 := by rw [eN]
    rw [q1, q2]
    exact this
  have HEN : Hid (∀ W, Calls Tryd.prog 6 #[.agg #[.int .i64 2, .string ByteArray.empty, .string ByteArray.empty, .int .i64 (lqN s).1, .slice none 0 0]] W fun e w' => e = .returned (.string (reqB (lRq s))) ∧ Below W.heap.size W w') := fun W => by
    have h1 := lRq_bulk s
    have h2 := lRq_rng s
    rw [eR] at h1 h2 ⊢
    exact specReq_any ⟨2, ByteArray.empty, ByteArray.empty, (lqN s).1, []⟩ none 0 W (Or.inl rfl) (Nat.le_trans h1 hs) h2.1 h2.2
  have HYES : Hid (s.size ≠ 0 → reqB (lRq s) = s → decR s = (⟨2, ByteArray.empty, ByteArray.empty, (lqN s).1, []⟩, true)) := fun h1 h2 => by rw [← eR]; exact looseR_yes h1 h2
  have HNOT : Hid (¬ (s.size ≠ 0 ∧ reqB (lRq s) = s) → decR s = (⟨0, ByteArray.empty, ByteArray.empty, 0, []⟩, false)) := fun h => looseR_no h
  have HPOST : Hid (∀ (e : Ending) (w' : World) (D : ReqD × Bool), decR s = D → (∃ av cap, e = .returned (.tuple #[.agg #[.int .i64 D.1.kind, .string D.1.tenant, .string D.1.metric, .int .i64 D.1.num, .slice av D.1.smps.length cap], .bool D.2]) ∧ SmpsOwn w' w.heap.size av D.1.smps ∧ Below w.heap.size w w') → DecROut s w e w') := fun e w' D h hh => by subst h; exact hh
  clear eT eM eN eR hpK hk2 eS
  clear hk
  generalize reqB (lRq s) = EB at *
  generalize DecROut s w = Post at *
  generalize posV (lqK s).2 = pK at *
  generalize posV (lqN s).2 = pN at *
  generalize (lqN s).1 = nu at *
  go_enter Tryd.func10, Tryd.ntmps10
  go_wp2_with fail
  refine (HN0.out _).mono ?_
  rintro e wx ⟨rfl, hw⟩
  replace hw := hw.symm
  subst hw
  have G0 : Hid (GS w ((w.alloc (.cells #[.int .i64 0, .string ⟨#[]⟩, .string ⟨#[]⟩, .int .i64 0, .slice none 0 0] 29)).alloc (.cells #[.int .i64 0, .string ⟨#[]⟩, .string ⟨#[]⟩, .int .i64 0, .slice none 0 0] 29)) #[.int .i64 0, .string ByteArray.empty, .string ByteArray.empty, .int .i64 0, .slice none 0 0]) := GS.start w
  generalize (w.alloc (.cells #[.int .i64 0, .string ⟨#[]⟩, .string ⟨#[]⟩, .int .i64 0, .slice none 0 0] 29)).alloc (.cells #[.int .i64 0, .string ⟨#[]⟩, .string ⟨#[]⟩, .int .i64 0, .slice none 0 0] 29) = W0 at *
  have c0 : W0.cell? ⟨(w.heap.size + 1), 0, none⟩ = some (.int .i64 0) := G0.out.1.cell 0
  have c1 := G0.out.1.free 0
  go_upto_region 4 with fail
  have G1 := hid (G0.out.set 0 (.int .i64 2))
  clear c0 c1 G0
  generalize W0.setCell ⟨(w.heap.size + 1), 0, none⟩ (.int .i64 2) = W1 at *
  clear W0
  replace G1 : Hid (GS w W1 #[.int .i64 2, .string ByteArray.empty, .string ByteArray.empty, .int .i64 0, .slice none 0 0]) := G1
  go_wp2_with fail
  refine (HN.out _).mono ?_
  rintro e wx ⟨rfl, hw⟩
  replace hw := hw.symm
  subst hw
  have c0 : W1.cell? ⟨(w.heap.size + 1), 3, none⟩ = some (.int .i64 0) := G1.out.1.cell 3
  have c1 := G1.out.1.free 3
  go_upto_region 16 with fail
  have G2 := hid (G1.out.set 3 (.int .i64 nu))
  clear c0 c1 G1
  generalize W1.setCell ⟨(w.heap.size + 1), 3, none⟩ (.int .i64 nu) = W2 at *
  clear W1
  replace G2 : Hid (GS w W2 #[.int .i64 2, .string ByteArray.empty, .string ByteArray.empty, .int .i64 nu, .slice none 0 0]) := G2
  have x0 : W2.cell? ⟨(w.heap.size + 1), 0, none⟩ = some (.int .i64 2) := G2.out.1.cell 0
  have x1 : W2.cell? ⟨(w.heap.size + 1), 1, none⟩ = some (.string ByteArray.empty) := G2.out.1.cell 1
  have x2 : W2.cell? ⟨(w.heap.size + 1), 2, none⟩ = some (.string ByteArray.empty) := G2.out.1.cell 2
  have x3 : W2.cell? ⟨(w.heap.size + 1), 3, none⟩ = some (.int .i64 nu) := G2.out.1.cell 3
  have x4 : W2.cell? ⟨(w.heap.size + 1), 4, none⟩ = some (.slice none 0 0) := G2.out.1.cell 4
  have y0 : W2.cell? ⟨w.heap.size, 0, none⟩ = some (.int .i64 0) := G2.out.2.1.cell 0
  have f0 := G2.out.2.1.free 0
  have y1 : W2.cell? ⟨w.heap.size, 1, none⟩ = some (.string ByteArray.empty) := G2.out.2.1.cell 1
  have f1 := G2.out.2.1.free 1
  have y2 : W2.cell? ⟨w.heap.size, 2, none⟩ = some (.string ByteArray.empty) := G2.out.2.1.cell 2
  have f2 := G2.out.2.1.free 2
  have y3 : W2.cell? ⟨w.heap.size, 3, none⟩ = some (.int .i64 0) := G2.out.2.1.cell 3
  have f3 := G2.out.2.1.free 3
  have y4 : W2.cell? ⟨w.heap.size, 4, none⟩ = some (.slice none 0 0) := G2.out.2.1.cell 4
  have f4 := G2.out.2.1.free 4
  by_cases hs0 : s.size = 0
  · have E : Hid (decR s = (⟨0, ByteArray.empty, ByteArray.empty, 0, []⟩, false)) := HNOT.out (fun h => h.1 hs0)
    have hd : (s.toList == []) = true := by rw [bemptyRq]; exact decide_eq_true hs0
    have hde : s.toList.isEmpty = true := by simpa using hd
    clear hs0
    go_wp2
    refine bodyPost_ret (v := .tuple #[.agg #[.int .i64 0, .string ByteArray.empty, .string ByteArray.empty, .int .i64 0, .slice none 0 0], .bool false]) (by simp [results, Tryd.results10, go_sem, y0, y1, y2, y3, y4]; rfl) rfl (HPOST.out _ _ _ E.out ⟨none, 0, rfl, Or.inl rfl, ?_⟩)
    exact (((((G2.out.2.2.setCell (by simp) _).setCell (by simp) _).setCell (by simp) _).setCell (by simp) _).setCell (by simp) _)
  · have hd : (s.toList == []) = false := by rw [bemptyRq]; exact decide_eq_false hs0
    have hde : s.toList.isEmpty = false := by simpa using hd
    by_cases heq : EB = s
    · have E : Hid (decR s = (⟨2, ByteArray.empty, ByteArray.empty, nu, []⟩, true)) := HYES.out hs0 heq
      subst heq
      have hR : (EB.toList != EB.toList) = false := by simp
      clear hs0
      go_wp2_with fail
      refine (HEN.out _).mono ?_
      rintro e w4 ⟨rfl, hb4⟩
      have HB4 : Hid (GS w w4 #[.int .i64 2, .string ByteArray.empty, .string ByteArray.empty, .int .i64 nu, .slice none 0 0]) := G2.out.later hb4
      skip
      clear hb4
      clear x0 y0 f0 x1 y1 f1 x2 y2 f2 x3 y3 f3 x4 y4 f4
      have x0 : w4.cell? ⟨(w.heap.size + 1), 0, none⟩ = some (.int .i64 2) := HB4.out.1.cell 0
      have x1 : w4.cell? ⟨(w.heap.size + 1), 1, none⟩ = some (.string ByteArray.empty) := HB4.out.1.cell 1
      have x2 : w4.cell? ⟨(w.heap.size + 1), 2, none⟩ = some (.string ByteArray.empty) := HB4.out.1.cell 2
      have x3 : w4.cell? ⟨(w.heap.size + 1), 3, none⟩ = some (.int .i64 nu) := HB4.out.1.cell 3
      have x4 : w4.cell? ⟨(w.heap.size + 1), 4, none⟩ = some (.slice none 0 0) := HB4.out.1.cell 4
      have y0 : w4.cell? ⟨w.heap.size, 0, none⟩ = some (.int .i64 0) := HB4.out.2.1.cell 0
      have f0 := HB4.out.2.1.free 0
      have y1 : w4.cell? ⟨w.heap.size, 1, none⟩ = some (.string ByteArray.empty) := HB4.out.2.1.cell 1
      have f1 := HB4.out.2.1.free 1
      have y2 : w4.cell? ⟨w.heap.size, 2, none⟩ = some (.string ByteArray.empty) := HB4.out.2.1.cell 2
      have f2 := HB4.out.2.1.free 2
      have y3 : w4.cell? ⟨w.heap.size, 3, none⟩ = some (.int .i64 0) := HB4.out.2.1.cell 3
      have f3 := HB4.out.2.1.free 3
      have y4 : w4.cell? ⟨w.heap.size, 4, none⟩ = some (.slice none 0 0) := HB4.out.2.1.cell 4
      have f4 := HB4.out.2.1.free 4
      go_wp2
      refine bodyPost_ret (v := .tuple #[.agg #[.int .i64 2, .string ByteArray.empty, .string ByteArray.empty, .int .i64 nu, .slice none 0 0], .bool true]) (by simp [results, Tryd.results10, go_sem, y0, y1, y2, y3, y4]) rfl (HPOST.out _ _ _ E.out ⟨none, 0, rfl, ?_, ?_⟩)
      · exact Or.inl rfl
      · exact (((((HB4.out.2.2.setCell (by simp) _).setCell (by simp) _).setCell (by simp) _).setCell (by simp) _).setCell (by simp) _)
    · have E : Hid (decR s = (⟨0, ByteArray.empty, ByteArray.empty, 0, []⟩, false)) := HNOT.out (fun h => heq h.2)
      have hR : (EB.toList == s.toList) = false := by
        apply Bool.eq_false_iff.2
        intro h
        replace h := eq_of_beq h
        apply heq
        apply bext
        rw [ByteArray.toList_eq, ByteArray.toList_eq] at h
        exact h
      clear hs0 heq
      go_wp2_with fail
      refine (HEN.out _).mono ?_
      rintro e w4 ⟨rfl, hb4⟩
      have HB4 : Hid (GS w w4 #[.int .i64 2, .string ByteArray.empty, .string ByteArray.empty, .int .i64 nu, .slice none 0 0]) := G2.out.later hb4
      skip
      clear hb4
      clear x0 y0 f0 x1 y1 f1 x2 y2 f2 x3 y3 f3 x4 y4 f4
      have x0 : w4.cell? ⟨(w.heap.size + 1), 0, none⟩ = some (.int .i64 2) := HB4.out.1.cell 0
      have x1 : w4.cell? ⟨(w.heap.size + 1), 1, none⟩ = some (.string ByteArray.empty) := HB4.out.1.cell 1
      have x2 : w4.cell? ⟨(w.heap.size + 1), 2, none⟩ = some (.string ByteArray.empty) := HB4.out.1.cell 2
      have x3 : w4.cell? ⟨(w.heap.size + 1), 3, none⟩ = some (.int .i64 nu) := HB4.out.1.cell 3
      have x4 : w4.cell? ⟨(w.heap.size + 1), 4, none⟩ = some (.slice none 0 0) := HB4.out.1.cell 4
      have y0 : w4.cell? ⟨w.heap.size, 0, none⟩ = some (.int .i64 0) := HB4.out.2.1.cell 0
      have f0 := HB4.out.2.1.free 0
      have y1 : w4.cell? ⟨w.heap.size, 1, none⟩ = some (.string ByteArray.empty) := HB4.out.2.1.cell 1
      have f1 := HB4.out.2.1.free 1
      have y2 : w4.cell? ⟨w.heap.size, 2, none⟩ = some (.string ByteArray.empty) := HB4.out.2.1.cell 2
      have f2 := HB4.out.2.1.free 2
      have y3 : w4.cell? ⟨w.heap.size, 3, none⟩ = some (.int .i64 0) := HB4.out.2.1.cell 3
      have f3 := HB4.out.2.1.free 3
      have y4 : w4.cell? ⟨w.heap.size, 4, none⟩ = some (.slice none 0 0) := HB4.out.2.1.cell 4
      have f4 := HB4.out.2.1.free 4
      go_wp2
      refine bodyPost_ret (v := .tuple #[.agg #[.int .i64 0, .string ByteArray.empty, .string ByteArray.empty, .int .i64 0, .slice none 0 0], .bool false]) (by simp [results, Tryd.results10, go_sem, y0, y1, y2, y3, y4]; rfl) rfl (HPOST.out _ _ _ E.out ⟨none, 0, rfl, Or.inl rfl, ?_⟩)
      exact (((((HB4.out.2.2.setCell (by simp) _).setCell (by simp) _).setCell (by simp) _).setCell (by simp) _).setCell (by simp) _)

set_option maxRecDepth 100000 in
set_option maxHeartbeats 16000000 in
theorem specDecR3_any (s : ByteArray) (w : World) (hs : s.size ≤ 1048576) (hk : (lqK s).1 = 3) :
    Calls Tryd.prog 10 #[.string s] w fun e w' => DecROut s w e w' := by
  have hsL : s.size ≤ 1000000000 := by omega
  have hk2 : (((lqK s).1 : Nat) : Int) = 3 := by rw [hk]; rfl
  have eT : lqT s = lPart s 1 (lqK s).2 := by rw [lqT, hk2, if_pos (by decide)]
  have eM : lqM s = lPart s 2 (lqT s).2 := by rw [lqM, hk2, if_pos (by decide)]
  have eN : lqN s = (wrapN (lNum s 8 (lqM s).2).1, (lNum s 8 (lqM s).2).2) := by rw [lqN, hk2, if_pos (by decide)]
  have eS : (lqS s).1 = [] := by rw [lqS, if_neg (by omega)]
  have eR : lRq s = ⟨3, (lqT s).1, (lqM s).1, (lqN s).1, []⟩ := by rw [lRq, hk2, eS]
  have HN0 : Hid (∀ W, Calls Tryd.prog 23 #[.string s, .int .i64 0, .int .i64 1] W fun e w' => e = .returned (.tuple #[.int .i64 3, .int .i64 (posV (lqK s).2)]) ∧ w' = W) := fun W => by
    have := specNumL_any s 1 (some 0) W hsL (fun q h => by cases h; omega) (by omega)
    rw [show lNum s 1 (some 0) = lqK s from rfl, hk, wrapN_small (by omega)] at this
    exact this
  have hpK : ∀ q, (lqK s).2 = some q → q ≤ s.size := fun q h => lNum_le (s := s) (n := 1) (p := some 0) h
  have HT : Hid (∀ W, Calls Tryd.prog 24 #[.string s, .int .i64 (posV (lqK s).2), .int .i64 1] W fun e w' => e = .returned (.tuple #[.string (lqT s).1, .int .i64 (posV (lqT s).2)]) ∧ w' = W) := fun W => by
    have := specPartL_any s 1 (lqK s).2 W hsL (fun q h => by have := hpK q h; omega) (by omega)
    rw [← eT] at this
    exact this
  have hpT : ∀ q, (lqT s).2 = some q → q ≤ s.size := fun q h => by rw [eT] at h; exact lPart_le h
  have HM : Hid (∀ W, Calls Tryd.prog 24 #[.string s, .int .i64 (posV (lqT s).2), .int .i64 2] W fun e w' => e = .returned (.tuple #[.string (lqM s).1, .int .i64 (posV (lqM s).2)]) ∧ w' = W) := fun W => by
    have := specPartL_any s 2 (lqT s).2 W hsL (fun q h => by have := hpT q h; omega) (by omega)
    rw [← eM] at this
    exact this
  have hpM : ∀ q, (lqM s).2 = some q → q ≤ s.size := fun q h => by rw [eM] at h; exact lPart_le h
  have HN : Hid (∀ W, Calls Tryd.prog 23 #[.string s, .int .i64 (posV (lqM s).2), .int .i64 8] W fun e w' => e = .returned (.tuple #[.int .i64 (lqN s).1, .int .i64 (posV (lqN s).2)]) ∧ w' = W) := fun W => by
    have := specNumL_any s 8 (lqM s).2 W hsL (fun q h => by have := hpM q h; omega) (by omega)
    have q1 : (lqN s).1 = wrapN (lNum s 8 (lqM s).2).1 := by rw [eN]
    have q2 : (lqN s).2 = (lNum s 8 (lqM s).2).2 := by rw [eN]
    rw [q1, q2]
    exact this
  have HEN : Hid (∀ W, Calls Tryd.prog 6 #[.agg #[.int .i64 3, .string (lqT s).1, .string (lqM s).1, .int .i64 (lqN s).1, .slice none 0 0]] W fun e w' => e = .returned (.string (reqB (lRq s))) ∧ Below W.heap.size W w') := fun W => by
    have h1 := lRq_bulk s
    have h2 := lRq_rng s
    rw [eR] at h1 h2 ⊢
    exact specReq_any ⟨3, (lqT s).1, (lqM s).1, (lqN s).1, []⟩ none 0 W (Or.inl rfl) (Nat.le_trans h1 hs) h2.1 h2.2
  have HYES : Hid (s.size ≠ 0 → reqB (lRq s) = s → decR s = (⟨3, (lqT s).1, (lqM s).1, (lqN s).1, []⟩, true)) := fun h1 h2 => by rw [← eR]; exact looseR_yes h1 h2
  have HNOT : Hid (¬ (s.size ≠ 0 ∧ reqB (lRq s) = s) → decR s = (⟨0, ByteArray.empty, ByteArray.empty, 0, []⟩, false)) := fun h => looseR_no h
  have HPOST : Hid (∀ (e : Ending) (w' : World) (D : ReqD × Bool), decR s = D → (∃ av cap, e = .returned (.tuple #[.agg #[.int .i64 D.1.kind, .string D.1.tenant, .string D.1.metric, .int .i64 D.1.num, .slice av D.1.smps.length cap], .bool D.2]) ∧ SmpsOwn w' w.heap.size av D.1.smps ∧ Below w.heap.size w w') → DecROut s w e w') := fun e w' D h hh => by subst h; exact hh
  clear eT eM eN eR hpK hk2 eS hpT hpM
  clear hk
  generalize reqB (lRq s) = EB at *
  generalize DecROut s w = Post at *
  generalize posV (lqK s).2 = pK at *
  generalize posV (lqT s).2 = pT at *
  generalize posV (lqM s).2 = pM at *
  generalize posV (lqN s).2 = pN at *
  generalize (lqT s).1 = te at *
  generalize (lqM s).1 = me at *
  generalize (lqN s).1 = nu at *
  go_enter Tryd.func10, Tryd.ntmps10
  go_wp2_with fail
  refine (HN0.out _).mono ?_
  rintro e wx ⟨rfl, hw⟩
  replace hw := hw.symm
  subst hw
  have G0 : Hid (GS w ((w.alloc (.cells #[.int .i64 0, .string ⟨#[]⟩, .string ⟨#[]⟩, .int .i64 0, .slice none 0 0] 29)).alloc (.cells #[.int .i64 0, .string ⟨#[]⟩, .string ⟨#[]⟩, .int .i64 0, .slice none 0 0] 29)) #[.int .i64 0, .string ByteArray.empty, .string ByteArray.empty, .int .i64 0, .slice none 0 0]) := GS.start w
  generalize (w.alloc (.cells #[.int .i64 0, .string ⟨#[]⟩, .string ⟨#[]⟩, .int .i64 0, .slice none 0 0] 29)).alloc (.cells #[.int .i64 0, .string ⟨#[]⟩, .string ⟨#[]⟩, .int .i64 0, .slice none 0 0] 29) = W0 at *
  have c0 : W0.cell? ⟨(w.heap.size + 1), 0, none⟩ = some (.int .i64 0) := G0.out.1.cell 0
  have c1 := G0.out.1.free 0
  go_upto_region 4 with fail
  have G1 := hid (G0.out.set 0 (.int .i64 3))
  clear c0 c1 G0
  generalize W0.setCell ⟨(w.heap.size + 1), 0, none⟩ (.int .i64 3) = W1 at *
  clear W0
  replace G1 : Hid (GS w W1 #[.int .i64 3, .string ByteArray.empty, .string ByteArray.empty, .int .i64 0, .slice none 0 0]) := G1
  go_wp2_with fail
  refine (HT.out _).mono ?_
  rintro e wx ⟨rfl, hw⟩
  replace hw := hw.symm
  subst hw
  have c0 : W1.cell? ⟨(w.heap.size + 1), 1, none⟩ = some (.string ByteArray.empty) := G1.out.1.cell 1
  have c1 := G1.out.1.free 1
  go_upto_region 8 with fail
  have G2 := hid (G1.out.set 1 (.string te))
  clear c0 c1 G1
  generalize W1.setCell ⟨(w.heap.size + 1), 1, none⟩ (.string te) = W2 at *
  clear W1
  replace G2 : Hid (GS w W2 #[.int .i64 3, .string te, .string ByteArray.empty, .int .i64 0, .slice none 0 0]) := G2
  go_wp2_with fail
  refine (HM.out _).mono ?_
  rintro e wx ⟨rfl, hw⟩
  replace hw := hw.symm
  subst hw
  have c0 : W2.cell? ⟨(w.heap.size + 1), 2, none⟩ = some (.string ByteArray.empty) := G2.out.1.cell 2
  have c1 := G2.out.1.free 2
  go_upto_region 12 with fail
  have G3 := hid (G2.out.set 2 (.string me))
  clear c0 c1 G2
  generalize W2.setCell ⟨(w.heap.size + 1), 2, none⟩ (.string me) = W3 at *
  clear W2
  replace G3 : Hid (GS w W3 #[.int .i64 3, .string te, .string me, .int .i64 0, .slice none 0 0]) := G3
  go_wp2_with fail
  refine (HN.out _).mono ?_
  rintro e wx ⟨rfl, hw⟩
  replace hw := hw.symm
  subst hw
  have c0 : W3.cell? ⟨(w.heap.size + 1), 3, none⟩ = some (.int .i64 0) := G3.out.1.cell 3
  have c1 := G3.out.1.free 3
  go_upto_region 16 with fail
  have G4 := hid (G3.out.set 3 (.int .i64 nu))
  clear c0 c1 G3
  generalize W3.setCell ⟨(w.heap.size + 1), 3, none⟩ (.int .i64 nu) = W4 at *
  clear W3
  replace G4 : Hid (GS w W4 #[.int .i64 3, .string te, .string me, .int .i64 nu, .slice none 0 0]) := G4
  have x0 : W4.cell? ⟨(w.heap.size + 1), 0, none⟩ = some (.int .i64 3) := G4.out.1.cell 0
  have x1 : W4.cell? ⟨(w.heap.size + 1), 1, none⟩ = some (.string te) := G4.out.1.cell 1
  have x2 : W4.cell? ⟨(w.heap.size + 1), 2, none⟩ = some (.string me) := G4.out.1.cell 2
  have x3 : W4.cell? ⟨(w.heap.size + 1), 3, none⟩ = some (.int .i64 nu) := G4.out.1.cell 3
  have x4 : W4.cell? ⟨(w.heap.size + 1), 4, none⟩ = some (.slice none 0 0) := G4.out.1.cell 4
  have y0 : W4.cell? ⟨w.heap.size, 0, none⟩ = some (.int .i64 0) := G4.out.2.1.cell 0
  have f0 := G4.out.2.1.free 0
  have y1 : W4.cell? ⟨w.heap.size, 1, none⟩ = some (.string ByteArray.empty) := G4.out.2.1.cell 1
  have f1 := G4.out.2.1.free 1
  have y2 : W4.cell? ⟨w.heap.size, 2, none⟩ = some (.string ByteArray.empty) := G4.out.2.1.cell 2
  have f2 := G4.out.2.1.free 2
  have y3 : W4.cell? ⟨w.heap.size, 3, none⟩ = some (.int .i64 0) := G4.out.2.1.cell 3
  have f3 := G4.out.2.1.free 3
  have y4 : W4.cell? ⟨w.heap.size, 4, none⟩ = some (.slice none 0 0) := G4.out.2.1.cell 4
  have f4 := G4.out.2.1.free 4
  by_cases hs0 : s.size = 0
  · have E : Hid (decR s = (⟨0, ByteArray.empty, ByteArray.empty, 0, []⟩, false)) := HNOT.out (fun h => h.1 hs0)
    have hd : (s.toList == []) = true := by rw [bemptyRq]; exact decide_eq_true hs0
    have hde : s.toList.isEmpty = true := by simpa using hd
    clear hs0
    go_wp2
    refine bodyPost_ret (v := .tuple #[.agg #[.int .i64 0, .string ByteArray.empty, .string ByteArray.empty, .int .i64 0, .slice none 0 0], .bool false]) (by simp [results, Tryd.results10, go_sem, y0, y1, y2, y3, y4]; rfl) rfl (HPOST.out _ _ _ E.out ⟨none, 0, rfl, Or.inl rfl, ?_⟩)
    exact (((((G4.out.2.2.setCell (by simp) _).setCell (by simp) _).setCell (by simp) _).setCell (by simp) _).setCell (by simp) _)
  · have hd : (s.toList == []) = false := by rw [bemptyRq]; exact decide_eq_false hs0
    have hde : s.toList.isEmpty = false := by simpa using hd
    by_cases heq : EB = s
    · have E : Hid (decR s = (⟨3, te, me, nu, []⟩, true)) := HYES.out hs0 heq
      subst heq
      have hR : (EB.toList != EB.toList) = false := by simp
      clear hs0
      go_wp2_with fail
      refine (HEN.out _).mono ?_
      rintro e w4 ⟨rfl, hb4⟩
      have HB4 : Hid (GS w w4 #[.int .i64 3, .string te, .string me, .int .i64 nu, .slice none 0 0]) := G4.out.later hb4
      skip
      clear hb4
      clear x0 y0 f0 x1 y1 f1 x2 y2 f2 x3 y3 f3 x4 y4 f4
      have x0 : w4.cell? ⟨(w.heap.size + 1), 0, none⟩ = some (.int .i64 3) := HB4.out.1.cell 0
      have x1 : w4.cell? ⟨(w.heap.size + 1), 1, none⟩ = some (.string te) := HB4.out.1.cell 1
      have x2 : w4.cell? ⟨(w.heap.size + 1), 2, none⟩ = some (.string me) := HB4.out.1.cell 2
      have x3 : w4.cell? ⟨(w.heap.size + 1), 3, none⟩ = some (.int .i64 nu) := HB4.out.1.cell 3
      have x4 : w4.cell? ⟨(w.heap.size + 1), 4, none⟩ = some (.slice none 0 0) := HB4.out.1.cell 4
      have y0 : w4.cell? ⟨w.heap.size, 0, none⟩ = some (.int .i64 0) := HB4.out.2.1.cell 0
      have f0 := HB4.out.2.1.free 0
      have y1 : w4.cell? ⟨w.heap.size, 1, none⟩ = some (.string ByteArray.empty) := HB4.out.2.1.cell 1
      have f1 := HB4.out.2.1.free 1
      have y2 : w4.cell? ⟨w.heap.size, 2, none⟩ = some (.string ByteArray.empty) := HB4.out.2.1.cell 2
      have f2 := HB4.out.2.1.free 2
      have y3 : w4.cell? ⟨w.heap.size, 3, none⟩ = some (.int .i64 0) := HB4.out.2.1.cell 3
      have f3 := HB4.out.2.1.free 3
      have y4 : w4.cell? ⟨w.heap.size, 4, none⟩ = some (.slice none 0 0) := HB4.out.2.1.cell 4
      have f4 := HB4.out.2.1.free 4
      go_wp2
      refine bodyPost_ret (v := .tuple #[.agg #[.int .i64 3, .string te, .string me, .int .i64 nu, .slice none 0 0], .bool true]) (by simp [results, Tryd.results10, go_sem, y0, y1, y2, y3, y4]) rfl (HPOST.out _ _ _ E.out ⟨none, 0, rfl, ?_, ?_⟩)
      · exact Or.inl rfl
      · exact (((((HB4.out.2.2.setCell (by simp) _).setCell (by simp) _).setCell (by simp) _).setCell (by simp) _).setCell (by simp) _)
    · have E : Hid (decR s = (⟨0, ByteArray.empty, ByteArray.empty, 0, []⟩, false)) := HNOT.out (fun h => heq h.2)
      have hR : (EB.toList == s.toList) = false := by
        apply Bool.eq_false_iff.2
        intro h
        replace h := eq_of_beq h
        apply heq
        apply bext
        rw [ByteArray.toList_eq, ByteArray.toList_eq] at h
        exact h
      clear hs0 heq
      go_wp2_with fail
      refine (HEN.out _).mono ?_
      rintro e w4 ⟨rfl, hb4⟩
      have HB4 : Hid (GS w w4 #[.int .i64 3, .string te, .string me, .int .i64 nu, .slice none 0 0]) := G4.out.later hb4
      skip
      clear hb4
      clear x0 y0 f0 x1 y1 f1 x2 y2 f2 x3 y3 f3 x4 y4 f4
      have x0 : w4.cell? ⟨(w.heap.size + 1), 0, none⟩ = some (.int .i64 3) := HB4.out.1.cell 0
      have x1 : w4.cell? ⟨(w.heap.size + 1), 1, none⟩ = some (.string te) := HB4.out.1.cell 1
      have x2 : w4.cell? ⟨(w.heap.size + 1), 2, none⟩ = some (.string me) := HB4.out.1.cell 2
      have x3 : w4.cell? ⟨(w.heap.size + 1), 3, none⟩ = some (.int .i64 nu) := HB4.out.1.cell 3
      have x4 : w4.cell? ⟨(w.heap.size + 1), 4, none⟩ = some (.slice none 0 0) := HB4.out.1.cell 4
      have y0 : w4.cell? ⟨w.heap.size, 0, none⟩ = some (.int .i64 0) := HB4.out.2.1.cell 0
      have f0 := HB4.out.2.1.free 0
      have y1 : w4.cell? ⟨w.heap.size, 1, none⟩ = some (.string ByteArray.empty) := HB4.out.2.1.cell 1
      have f1 := HB4.out.2.1.free 1
      have y2 : w4.cell? ⟨w.heap.size, 2, none⟩ = some (.string ByteArray.empty) := HB4.out.2.1.cell 2
      have f2 := HB4.out.2.1.free 2
      have y3 : w4.cell? ⟨w.heap.size, 3, none⟩ = some (.int .i64 0) := HB4.out.2.1.cell 3
      have f3 := HB4.out.2.1.free 3
      have y4 : w4.cell? ⟨w.heap.size, 4, none⟩ = some (.slice none 0 0) := HB4.out.2.1.cell 4
      have f4 := HB4.out.2.1.free 4
      go_wp2
      refine bodyPost_ret (v := .tuple #[.agg #[.int .i64 0, .string ByteArray.empty, .string ByteArray.empty, .int .i64 0, .slice none 0 0], .bool false]) (by simp [results, Tryd.results10, go_sem, y0, y1, y2, y3, y4]; rfl) rfl (HPOST.out _ _ _ E.out ⟨none, 0, rfl, Or.inl rfl, ?_⟩)
      exact (((((HB4.out.2.2.setCell (by simp) _).setCell (by simp) _).setCell (by simp) _).setCell (by simp) _).setCell (by simp) _)

set_option maxRecDepth 100000 in
set_option maxHeartbeats 16000000 in
theorem specDecR4_any (s : ByteArray) (w : World) (hs : s.size ≤ 1048576) (hk : (lqK s).1 = 4) :
    Calls Tryd.prog 10 #[.string s] w fun e w' => DecROut s w e w' := by
  have hsL : s.size ≤ 1000000000 := by omega
  have hk2 : (((lqK s).1 : Nat) : Int) = 4 := by rw [hk]; rfl
  have eT : lqT s = (ByteArray.empty, (lqK s).2) := by rw [lqT, hk2, if_neg (by decide)]
  have eM : lqM s = (ByteArray.empty, (lqK s).2) := by rw [lqM, hk2, if_neg (by decide), eT]
  have eN : lqN s = (0, (lqK s).2) := by rw [lqN, hk2, if_neg (by decide), eM]
  have eS : (lqS s).1 = [] := by rw [lqS, if_neg (by omega)]
  have eR : lRq s = ⟨4, ByteArray.empty, ByteArray.empty, 0, []⟩ := by rw [lRq, hk2, eS, eN, eM, eT]
  have HN0 : Hid (∀ W, Calls Tryd.prog 23 #[.string s, .int .i64 0, .int .i64 1] W fun e w' => e = .returned (.tuple #[.int .i64 4, .int .i64 (posV (lqK s).2)]) ∧ w' = W) := fun W => by
    have := specNumL_any s 1 (some 0) W hsL (fun q h => by cases h; omega) (by omega)
    rw [show lNum s 1 (some 0) = lqK s from rfl, hk, wrapN_small (by omega)] at this
    exact this
  have hpK : ∀ q, (lqK s).2 = some q → q ≤ s.size := fun q h => lNum_le (s := s) (n := 1) (p := some 0) h
  have HEN : Hid (∀ W, Calls Tryd.prog 6 #[.agg #[.int .i64 4, .string ByteArray.empty, .string ByteArray.empty, .int .i64 0, .slice none 0 0]] W fun e w' => e = .returned (.string (reqB (lRq s))) ∧ Below W.heap.size W w') := fun W => by
    have h1 := lRq_bulk s
    have h2 := lRq_rng s
    rw [eR] at h1 h2 ⊢
    exact specReq_any ⟨4, ByteArray.empty, ByteArray.empty, 0, []⟩ none 0 W (Or.inl rfl) (Nat.le_trans h1 hs) h2.1 h2.2
  have HYES : Hid (s.size ≠ 0 → reqB (lRq s) = s → decR s = (⟨4, ByteArray.empty, ByteArray.empty, 0, []⟩, true)) := fun h1 h2 => by rw [← eR]; exact looseR_yes h1 h2
  have HNOT : Hid (¬ (s.size ≠ 0 ∧ reqB (lRq s) = s) → decR s = (⟨0, ByteArray.empty, ByteArray.empty, 0, []⟩, false)) := fun h => looseR_no h
  have HPOST : Hid (∀ (e : Ending) (w' : World) (D : ReqD × Bool), decR s = D → (∃ av cap, e = .returned (.tuple #[.agg #[.int .i64 D.1.kind, .string D.1.tenant, .string D.1.metric, .int .i64 D.1.num, .slice av D.1.smps.length cap], .bool D.2]) ∧ SmpsOwn w' w.heap.size av D.1.smps ∧ Below w.heap.size w w') → DecROut s w e w') := fun e w' D h hh => by subst h; exact hh
  clear eT eM eN eR hpK hk2 eS
  clear hk
  generalize reqB (lRq s) = EB at *
  generalize DecROut s w = Post at *
  generalize posV (lqK s).2 = pK at *
  go_enter Tryd.func10, Tryd.ntmps10
  go_wp2_with fail
  refine (HN0.out _).mono ?_
  rintro e wx ⟨rfl, hw⟩
  replace hw := hw.symm
  subst hw
  have G0 : Hid (GS w ((w.alloc (.cells #[.int .i64 0, .string ⟨#[]⟩, .string ⟨#[]⟩, .int .i64 0, .slice none 0 0] 29)).alloc (.cells #[.int .i64 0, .string ⟨#[]⟩, .string ⟨#[]⟩, .int .i64 0, .slice none 0 0] 29)) #[.int .i64 0, .string ByteArray.empty, .string ByteArray.empty, .int .i64 0, .slice none 0 0]) := GS.start w
  generalize (w.alloc (.cells #[.int .i64 0, .string ⟨#[]⟩, .string ⟨#[]⟩, .int .i64 0, .slice none 0 0] 29)).alloc (.cells #[.int .i64 0, .string ⟨#[]⟩, .string ⟨#[]⟩, .int .i64 0, .slice none 0 0] 29) = W0 at *
  have c0 : W0.cell? ⟨(w.heap.size + 1), 0, none⟩ = some (.int .i64 0) := G0.out.1.cell 0
  have c1 := G0.out.1.free 0
  go_upto_region 4 with fail
  have G1 := hid (G0.out.set 0 (.int .i64 4))
  clear c0 c1 G0
  generalize W0.setCell ⟨(w.heap.size + 1), 0, none⟩ (.int .i64 4) = W1 at *
  clear W0
  replace G1 : Hid (GS w W1 #[.int .i64 4, .string ByteArray.empty, .string ByteArray.empty, .int .i64 0, .slice none 0 0]) := G1
  have x0 : W1.cell? ⟨(w.heap.size + 1), 0, none⟩ = some (.int .i64 4) := G1.out.1.cell 0
  have x1 : W1.cell? ⟨(w.heap.size + 1), 1, none⟩ = some (.string ByteArray.empty) := G1.out.1.cell 1
  have x2 : W1.cell? ⟨(w.heap.size + 1), 2, none⟩ = some (.string ByteArray.empty) := G1.out.1.cell 2
  have x3 : W1.cell? ⟨(w.heap.size + 1), 3, none⟩ = some (.int .i64 0) := G1.out.1.cell 3
  have x4 : W1.cell? ⟨(w.heap.size + 1), 4, none⟩ = some (.slice none 0 0) := G1.out.1.cell 4
  have y0 : W1.cell? ⟨w.heap.size, 0, none⟩ = some (.int .i64 0) := G1.out.2.1.cell 0
  have f0 := G1.out.2.1.free 0
  have y1 : W1.cell? ⟨w.heap.size, 1, none⟩ = some (.string ByteArray.empty) := G1.out.2.1.cell 1
  have f1 := G1.out.2.1.free 1
  have y2 : W1.cell? ⟨w.heap.size, 2, none⟩ = some (.string ByteArray.empty) := G1.out.2.1.cell 2
  have f2 := G1.out.2.1.free 2
  have y3 : W1.cell? ⟨w.heap.size, 3, none⟩ = some (.int .i64 0) := G1.out.2.1.cell 3
  have f3 := G1.out.2.1.free 3
  have y4 : W1.cell? ⟨w.heap.size, 4, none⟩ = some (.slice none 0 0) := G1.out.2.1.cell 4
  have f4 := G1.out.2.1.free 4
  by_cases hs0 : s.size = 0
  · have E : Hid (decR s = (⟨0, ByteArray.empty, ByteArray.empty, 0, []⟩, false)) := HNOT.out (fun h => h.1 hs0)
    have hd : (s.toList == []) = true := by rw [bemptyRq]; exact decide_eq_true hs0
    have hde : s.toList.isEmpty = true := by simpa using hd
    clear hs0
    go_wp2
    refine bodyPost_ret (v := .tuple #[.agg #[.int .i64 0, .string ByteArray.empty, .string ByteArray.empty, .int .i64 0, .slice none 0 0], .bool false]) (by simp [results, Tryd.results10, go_sem, y0, y1, y2, y3, y4]; rfl) rfl (HPOST.out _ _ _ E.out ⟨none, 0, rfl, Or.inl rfl, ?_⟩)
    exact (((((G1.out.2.2.setCell (by simp) _).setCell (by simp) _).setCell (by simp) _).setCell (by simp) _).setCell (by simp) _)
  · have hd : (s.toList == []) = false := by rw [bemptyRq]; exact decide_eq_false hs0
    have hde : s.toList.isEmpty = false := by simpa using hd
    by_cases heq : EB = s
    · have E : Hid (decR s = (⟨4, ByteArray.empty, ByteArray.empty, 0, []⟩, true)) := HYES.out hs0 heq
      subst heq
      have hR : (EB.toList != EB.toList) = false := by simp
      clear hs0
      go_wp2_with fail
      refine (HEN.out _).mono ?_
      rintro e w4 ⟨rfl, hb4⟩
      have HB4 : Hid (GS w w4 #[.int .i64 4, .string ByteArray.empty, .string ByteArray.empty, .int .i64 0, .slice none 0 0]) := G1.out.later hb4
      skip
      clear hb4
      clear x0 y0 f0 x1 y1 f1 x2 y2 f2 x3 y3 f3 x4 y4 f4
      have x0 : w4.cell? ⟨(w.heap.size + 1), 0, none⟩ = some (.int .i64 4) := HB4.out.1.cell 0
      have x1 : w4.cell? ⟨(w.heap.size + 1), 1, none⟩ = some (.string ByteArray.empty) := HB4.out.1.cell 1
      have x2 : w4.cell? ⟨(w.heap.size + 1), 2, none⟩ = some (.string ByteArray.empty) := HB4.out.1.cell 2
      have x3 : w4.cell? ⟨(w.heap.size + 1), 3, none⟩ = some (.int .i64 0) := HB4.out.1.cell 3
      have x4 : w4.cell? ⟨(w.heap.size + 1), 4, none⟩ = some (.slice none 0 0) := HB4.out.1.cell 4
      have y0 : w4.cell? ⟨w.heap.size, 0, none⟩ = some (.int .i64 0) := HB4.out.2.1.cell 0
      have f0 := HB4.out.2.1.free 0
      have y1 : w4.cell? ⟨w.heap.size, 1, none⟩ = some (.string ByteArray.empty) := HB4.out.2.1.cell 1
      have f1 := HB4.out.2.1.free 1
      have y2 : w4.cell? ⟨w.heap.size, 2, none⟩ = some (.string ByteArray.empty) := HB4.out.2.1.cell 2
      have f2 := HB4.out.2.1.free 2
      have y3 : w4.cell? ⟨w.heap.size, 3, none⟩ = some (.int .i64 0) := HB4.out.2.1.cell 3
      have f3 := HB4.out.2.1.free 3
      have y4 : w4.cell? ⟨w.heap.size, 4, none⟩ = some (.slice none 0 0) := HB4.out.2.1.cell 4
      have f4 := HB4.out.2.1.free 4
      go_wp2
      refine bodyPost_ret (v := .tuple #[.agg #[.int .i64 4, .string ByteArray.empty, .string ByteArray.empty, .int .i64 0, .slice none 0 0], .bool true]) (by simp [results, Tryd.results10, go_sem, y0, y1, y2, y3, y4]) rfl (HPOST.out _ _ _ E.out ⟨none, 0, rfl, ?_, ?_⟩)
      · exact Or.inl rfl
      · exact (((((HB4.out.2.2.setCell (by simp) _).setCell (by simp) _).setCell (by simp) _).setCell (by simp) _).setCell (by simp) _)
    · have E : Hid (decR s = (⟨0, ByteArray.empty, ByteArray.empty, 0, []⟩, false)) := HNOT.out (fun h => heq h.2)
      have hR : (EB.toList == s.toList) = false := by
        apply Bool.eq_false_iff.2
        intro h
        replace h := eq_of_beq h
        apply heq
        apply bext
        rw [ByteArray.toList_eq, ByteArray.toList_eq] at h
        exact h
      clear hs0 heq
      go_wp2_with fail
      refine (HEN.out _).mono ?_
      rintro e w4 ⟨rfl, hb4⟩
      have HB4 : Hid (GS w w4 #[.int .i64 4, .string ByteArray.empty, .string ByteArray.empty, .int .i64 0, .slice none 0 0]) := G1.out.later hb4
      skip
      clear hb4
      clear x0 y0 f0 x1 y1 f1 x2 y2 f2 x3 y3 f3 x4 y4 f4
      have x0 : w4.cell? ⟨(w.heap.size + 1), 0, none⟩ = some (.int .i64 4) := HB4.out.1.cell 0
      have x1 : w4.cell? ⟨(w.heap.size + 1), 1, none⟩ = some (.string ByteArray.empty) := HB4.out.1.cell 1
      have x2 : w4.cell? ⟨(w.heap.size + 1), 2, none⟩ = some (.string ByteArray.empty) := HB4.out.1.cell 2
      have x3 : w4.cell? ⟨(w.heap.size + 1), 3, none⟩ = some (.int .i64 0) := HB4.out.1.cell 3
      have x4 : w4.cell? ⟨(w.heap.size + 1), 4, none⟩ = some (.slice none 0 0) := HB4.out.1.cell 4
      have y0 : w4.cell? ⟨w.heap.size, 0, none⟩ = some (.int .i64 0) := HB4.out.2.1.cell 0
      have f0 := HB4.out.2.1.free 0
      have y1 : w4.cell? ⟨w.heap.size, 1, none⟩ = some (.string ByteArray.empty) := HB4.out.2.1.cell 1
      have f1 := HB4.out.2.1.free 1
      have y2 : w4.cell? ⟨w.heap.size, 2, none⟩ = some (.string ByteArray.empty) := HB4.out.2.1.cell 2
      have f2 := HB4.out.2.1.free 2
      have y3 : w4.cell? ⟨w.heap.size, 3, none⟩ = some (.int .i64 0) := HB4.out.2.1.cell 3
      have f3 := HB4.out.2.1.free 3
      have y4 : w4.cell? ⟨w.heap.size, 4, none⟩ = some (.slice none 0 0) := HB4.out.2.1.cell 4
      have f4 := HB4.out.2.1.free 4
      go_wp2
      refine bodyPost_ret (v := .tuple #[.agg #[.int .i64 0, .string ByteArray.empty, .string ByteArray.empty, .int .i64 0, .slice none 0 0], .bool false]) (by simp [results, Tryd.results10, go_sem, y0, y1, y2, y3, y4]; rfl) rfl (HPOST.out _ _ _ E.out ⟨none, 0, rfl, Or.inl rfl, ?_⟩)
      exact (((((HB4.out.2.2.setCell (by simp) _).setCell (by simp) _).setCell (by simp) _).setCell (by simp) _).setCell (by simp) _)

set_option maxRecDepth 100000 in
set_option maxHeartbeats 16000000 in
theorem specDecR5_any (s : ByteArray) (w : World) (hs : s.size ≤ 1048576) (hk : (lqK s).1 = 5) :
    Calls Tryd.prog 10 #[.string s] w fun e w' => DecROut s w e w' := by
  have hsL : s.size ≤ 1000000000 := by omega
  have hk2 : (((lqK s).1 : Nat) : Int) = 5 := by rw [hk]; rfl
  have eT : lqT s = lPart s 1 (lqK s).2 := by rw [lqT, hk2, if_pos (by decide)]
  have eM : lqM s = lPart s 2 (lqT s).2 := by rw [lqM, hk2, if_pos (by decide)]
  have eN : lqN s = (0, (lqM s).2) := by rw [lqN, hk2, if_neg (by decide)]
  have eS : (lqS s).1 = [] := by rw [lqS, if_neg (by omega)]
  have eR : lRq s = ⟨5, (lqT s).1, (lqM s).1, 0, []⟩ := by rw [lRq, hk2, eS, eN]
  have HN0 : Hid (∀ W, Calls Tryd.prog 23 #[.string s, .int .i64 0, .int .i64 1] W fun e w' => e = .returned (.tuple #[.int .i64 5, .int .i64 (posV (lqK s).2)]) ∧ w' = W) := fun W => by
    have := specNumL_any s 1 (some 0) W hsL (fun q h => by cases h; omega) (by omega)
    rw [show lNum s 1 (some 0) = lqK s from rfl, hk, wrapN_small (by omega)] at this
    exact this
  have hpK : ∀ q, (lqK s).2 = some q → q ≤ s.size := fun q h => lNum_le (s := s) (n := 1) (p := some 0) h
  have HT : Hid (∀ W, Calls Tryd.prog 24 #[.string s, .int .i64 (posV (lqK s).2), .int .i64 1] W fun e w' => e = .returned (.tuple #[.string (lqT s).1, .int .i64 (posV (lqT s).2)]) ∧ w' = W) := fun W => by
    have := specPartL_any s 1 (lqK s).2 W hsL (fun q h => by have := hpK q h; omega) (by omega)
    rw [← eT] at this
    exact this
  have hpT : ∀ q, (lqT s).2 = some q → q ≤ s.size := fun q h => by rw [eT] at h; exact lPart_le h
  have HM : Hid (∀ W, Calls Tryd.prog 24 #[.string s, .int .i64 (posV (lqT s).2), .int .i64 2] W fun e w' => e = .returned (.tuple #[.string (lqM s).1, .int .i64 (posV (lqM s).2)]) ∧ w' = W) := fun W => by
    have := specPartL_any s 2 (lqT s).2 W hsL (fun q h => by have := hpT q h; omega) (by omega)
    rw [← eM] at this
    exact this
  have hpM : ∀ q, (lqM s).2 = some q → q ≤ s.size := fun q h => by rw [eM] at h; exact lPart_le h
  have HEN : Hid (∀ W, Calls Tryd.prog 6 #[.agg #[.int .i64 5, .string (lqT s).1, .string (lqM s).1, .int .i64 0, .slice none 0 0]] W fun e w' => e = .returned (.string (reqB (lRq s))) ∧ Below W.heap.size W w') := fun W => by
    have h1 := lRq_bulk s
    have h2 := lRq_rng s
    rw [eR] at h1 h2 ⊢
    exact specReq_any ⟨5, (lqT s).1, (lqM s).1, 0, []⟩ none 0 W (Or.inl rfl) (Nat.le_trans h1 hs) h2.1 h2.2
  have HYES : Hid (s.size ≠ 0 → reqB (lRq s) = s → decR s = (⟨5, (lqT s).1, (lqM s).1, 0, []⟩, true)) := fun h1 h2 => by rw [← eR]; exact looseR_yes h1 h2
  have HNOT : Hid (¬ (s.size ≠ 0 ∧ reqB (lRq s) = s) → decR s = (⟨0, ByteArray.empty, ByteArray.empty, 0, []⟩, false)) := fun h => looseR_no h
  have HPOST : Hid (∀ (e : Ending) (w' : World) (D : ReqD × Bool), decR s = D → (∃ av cap, e = .returned (.tuple #[.agg #[.int .i64 D.1.kind, .string D.1.tenant, .string D.1.metric, .int .i64 D.1.num, .slice av D.1.smps.length cap], .bool D.2]) ∧ SmpsOwn w' w.heap.size av D.1.smps ∧ Below w.heap.size w w') → DecROut s w e w') := fun e w' D h hh => by subst h; exact hh
  clear eT eM eN eR hpK hk2 eS hpT hpM
  clear hk
  generalize reqB (lRq s) = EB at *
  generalize DecROut s w = Post at *
  generalize posV (lqK s).2 = pK at *
  generalize posV (lqT s).2 = pT at *
  generalize posV (lqM s).2 = pM at *
  generalize (lqT s).1 = te at *
  generalize (lqM s).1 = me at *
  go_enter Tryd.func10, Tryd.ntmps10
  go_wp2_with fail
  refine (HN0.out _).mono ?_
  rintro e wx ⟨rfl, hw⟩
  replace hw := hw.symm
  subst hw
  have G0 : Hid (GS w ((w.alloc (.cells #[.int .i64 0, .string ⟨#[]⟩, .string ⟨#[]⟩, .int .i64 0, .slice none 0 0] 29)).alloc (.cells #[.int .i64 0, .string ⟨#[]⟩, .string ⟨#[]⟩, .int .i64 0, .slice none 0 0] 29)) #[.int .i64 0, .string ByteArray.empty, .string ByteArray.empty, .int .i64 0, .slice none 0 0]) := GS.start w
  generalize (w.alloc (.cells #[.int .i64 0, .string ⟨#[]⟩, .string ⟨#[]⟩, .int .i64 0, .slice none 0 0] 29)).alloc (.cells #[.int .i64 0, .string ⟨#[]⟩, .string ⟨#[]⟩, .int .i64 0, .slice none 0 0] 29) = W0 at *
  have c0 : W0.cell? ⟨(w.heap.size + 1), 0, none⟩ = some (.int .i64 0) := G0.out.1.cell 0
  have c1 := G0.out.1.free 0
  go_upto_region 4 with fail
  have G1 := hid (G0.out.set 0 (.int .i64 5))
  clear c0 c1 G0
  generalize W0.setCell ⟨(w.heap.size + 1), 0, none⟩ (.int .i64 5) = W1 at *
  clear W0
  replace G1 : Hid (GS w W1 #[.int .i64 5, .string ByteArray.empty, .string ByteArray.empty, .int .i64 0, .slice none 0 0]) := G1
  go_wp2_with fail
  refine (HT.out _).mono ?_
  rintro e wx ⟨rfl, hw⟩
  replace hw := hw.symm
  subst hw
  have c0 : W1.cell? ⟨(w.heap.size + 1), 1, none⟩ = some (.string ByteArray.empty) := G1.out.1.cell 1
  have c1 := G1.out.1.free 1
  go_upto_region 8 with fail
  have G2 := hid (G1.out.set 1 (.string te))
  clear c0 c1 G1
  generalize W1.setCell ⟨(w.heap.size + 1), 1, none⟩ (.string te) = W2 at *
  clear W1
  replace G2 : Hid (GS w W2 #[.int .i64 5, .string te, .string ByteArray.empty, .int .i64 0, .slice none 0 0]) := G2
  go_wp2_with fail
  refine (HM.out _).mono ?_
  rintro e wx ⟨rfl, hw⟩
  replace hw := hw.symm
  subst hw
  have c0 : W2.cell? ⟨(w.heap.size + 1), 2, none⟩ = some (.string ByteArray.empty) := G2.out.1.cell 2
  have c1 := G2.out.1.free 2
  go_upto_region 12 with fail
  have G3 := hid (G2.out.set 2 (.string me))
  clear c0 c1 G2
  generalize W2.setCell ⟨(w.heap.size + 1), 2, none⟩ (.string me) = W3 at *
  clear W2
  replace G3 : Hid (GS w W3 #[.int .i64 5, .string te, .string me, .int .i64 0, .slice none 0 0]) := G3
  have x0 : W3.cell? ⟨(w.heap.size + 1), 0, none⟩ = some (.int .i64 5) := G3.out.1.cell 0
  have x1 : W3.cell? ⟨(w.heap.size + 1), 1, none⟩ = some (.string te) := G3.out.1.cell 1
  have x2 : W3.cell? ⟨(w.heap.size + 1), 2, none⟩ = some (.string me) := G3.out.1.cell 2
  have x3 : W3.cell? ⟨(w.heap.size + 1), 3, none⟩ = some (.int .i64 0) := G3.out.1.cell 3
  have x4 : W3.cell? ⟨(w.heap.size + 1), 4, none⟩ = some (.slice none 0 0) := G3.out.1.cell 4
  have y0 : W3.cell? ⟨w.heap.size, 0, none⟩ = some (.int .i64 0) := G3.out.2.1.cell 0
  have f0 := G3.out.2.1.free 0
  have y1 : W3.cell? ⟨w.heap.size, 1, none⟩ = some (.string ByteArray.empty) := G3.out.2.1.cell 1
  have f1 := G3.out.2.1.free 1
  have y2 : W3.cell? ⟨w.heap.size, 2, none⟩ = some (.string ByteArray.empty) := G3.out.2.1.cell 2
  have f2 := G3.out.2.1.free 2
  have y3 : W3.cell? ⟨w.heap.size, 3, none⟩ = some (.int .i64 0) := G3.out.2.1.cell 3
  have f3 := G3.out.2.1.free 3
  have y4 : W3.cell? ⟨w.heap.size, 4, none⟩ = some (.slice none 0 0) := G3.out.2.1.cell 4
  have f4 := G3.out.2.1.free 4
  by_cases hs0 : s.size = 0
  · have E : Hid (decR s = (⟨0, ByteArray.empty, ByteArray.empty, 0, []⟩, false)) := HNOT.out (fun h => h.1 hs0)
    have hd : (s.toList == []) = true := by rw [bemptyRq]; exact decide_eq_true hs0
    have hde : s.toList.isEmpty = true := by simpa using hd
    clear hs0
    go_wp2
    refine bodyPost_ret (v := .tuple #[.agg #[.int .i64 0, .string ByteArray.empty, .string ByteArray.empty, .int .i64 0, .slice none 0 0], .bool false]) (by simp [results, Tryd.results10, go_sem, y0, y1, y2, y3, y4]; rfl) rfl (HPOST.out _ _ _ E.out ⟨none, 0, rfl, Or.inl rfl, ?_⟩)
    exact (((((G3.out.2.2.setCell (by simp) _).setCell (by simp) _).setCell (by simp) _).setCell (by simp) _).setCell (by simp) _)
  · have hd : (s.toList == []) = false := by rw [bemptyRq]; exact decide_eq_false hs0
    have hde : s.toList.isEmpty = false := by simpa using hd
    by_cases heq : EB = s
    · have E : Hid (decR s = (⟨5, te, me, 0, []⟩, true)) := HYES.out hs0 heq
      subst heq
      have hR : (EB.toList != EB.toList) = false := by simp
      clear hs0
      go_wp2_with fail
      refine (HEN.out _).mono ?_
      rintro e w4 ⟨rfl, hb4⟩
      have HB4 : Hid (GS w w4 #[.int .i64 5, .string te, .string me, .int .i64 0, .slice none 0 0]) := G3.out.later hb4
      skip
      clear hb4
      clear x0 y0 f0 x1 y1 f1 x2 y2 f2 x3 y3 f3 x4 y4 f4
      have x0 : w4.cell? ⟨(w.heap.size + 1), 0, none⟩ = some (.int .i64 5) := HB4.out.1.cell 0
      have x1 : w4.cell? ⟨(w.heap.size + 1), 1, none⟩ = some (.string te) := HB4.out.1.cell 1
      have x2 : w4.cell? ⟨(w.heap.size + 1), 2, none⟩ = some (.string me) := HB4.out.1.cell 2
      have x3 : w4.cell? ⟨(w.heap.size + 1), 3, none⟩ = some (.int .i64 0) := HB4.out.1.cell 3
      have x4 : w4.cell? ⟨(w.heap.size + 1), 4, none⟩ = some (.slice none 0 0) := HB4.out.1.cell 4
      have y0 : w4.cell? ⟨w.heap.size, 0, none⟩ = some (.int .i64 0) := HB4.out.2.1.cell 0
      have f0 := HB4.out.2.1.free 0
      have y1 : w4.cell? ⟨w.heap.size, 1, none⟩ = some (.string ByteArray.empty) := HB4.out.2.1.cell 1
      have f1 := HB4.out.2.1.free 1
      have y2 : w4.cell? ⟨w.heap.size, 2, none⟩ = some (.string ByteArray.empty) := HB4.out.2.1.cell 2
      have f2 := HB4.out.2.1.free 2
      have y3 : w4.cell? ⟨w.heap.size, 3, none⟩ = some (.int .i64 0) := HB4.out.2.1.cell 3
      have f3 := HB4.out.2.1.free 3
      have y4 : w4.cell? ⟨w.heap.size, 4, none⟩ = some (.slice none 0 0) := HB4.out.2.1.cell 4
      have f4 := HB4.out.2.1.free 4
      go_wp2
      refine bodyPost_ret (v := .tuple #[.agg #[.int .i64 5, .string te, .string me, .int .i64 0, .slice none 0 0], .bool true]) (by simp [results, Tryd.results10, go_sem, y0, y1, y2, y3, y4]) rfl (HPOST.out _ _ _ E.out ⟨none, 0, rfl, ?_, ?_⟩)
      · exact Or.inl rfl
      · exact (((((HB4.out.2.2.setCell (by simp) _).setCell (by simp) _).setCell (by simp) _).setCell (by simp) _).setCell (by simp) _)
    · have E : Hid (decR s = (⟨0, ByteArray.empty, ByteArray.empty, 0, []⟩, false)) := HNOT.out (fun h => heq h.2)
      have hR : (EB.toList == s.toList) = false := by
        apply Bool.eq_false_iff.2
        intro h
        replace h := eq_of_beq h
        apply heq
        apply bext
        rw [ByteArray.toList_eq, ByteArray.toList_eq] at h
        exact h
      clear hs0 heq
      go_wp2_with fail
      refine (HEN.out _).mono ?_
      rintro e w4 ⟨rfl, hb4⟩
      have HB4 : Hid (GS w w4 #[.int .i64 5, .string te, .string me, .int .i64 0, .slice none 0 0]) := G3.out.later hb4
      skip
      clear hb4
      clear x0 y0 f0 x1 y1 f1 x2 y2 f2 x3 y3 f3 x4 y4 f4
      have x0 : w4.cell? ⟨(w.heap.size + 1), 0, none⟩ = some (.int .i64 5) := HB4.out.1.cell 0
      have x1 : w4.cell? ⟨(w.heap.size + 1), 1, none⟩ = some (.string te) := HB4.out.1.cell 1
      have x2 : w4.cell? ⟨(w.heap.size + 1), 2, none⟩ = some (.string me) := HB4.out.1.cell 2
      have x3 : w4.cell? ⟨(w.heap.size + 1), 3, none⟩ = some (.int .i64 0) := HB4.out.1.cell 3
      have x4 : w4.cell? ⟨(w.heap.size + 1), 4, none⟩ = some (.slice none 0 0) := HB4.out.1.cell 4
      have y0 : w4.cell? ⟨w.heap.size, 0, none⟩ = some (.int .i64 0) := HB4.out.2.1.cell 0
      have f0 := HB4.out.2.1.free 0
      have y1 : w4.cell? ⟨w.heap.size, 1, none⟩ = some (.string ByteArray.empty) := HB4.out.2.1.cell 1
      have f1 := HB4.out.2.1.free 1
      have y2 : w4.cell? ⟨w.heap.size, 2, none⟩ = some (.string ByteArray.empty) := HB4.out.2.1.cell 2
      have f2 := HB4.out.2.1.free 2
      have y3 : w4.cell? ⟨w.heap.size, 3, none⟩ = some (.int .i64 0) := HB4.out.2.1.cell 3
      have f3 := HB4.out.2.1.free 3
      have y4 : w4.cell? ⟨w.heap.size, 4, none⟩ = some (.slice none 0 0) := HB4.out.2.1.cell 4
      have f4 := HB4.out.2.1.free 4
      go_wp2
      refine bodyPost_ret (v := .tuple #[.agg #[.int .i64 0, .string ByteArray.empty, .string ByteArray.empty, .int .i64 0, .slice none 0 0], .bool false]) (by simp [results, Tryd.results10, go_sem, y0, y1, y2, y3, y4]; rfl) rfl (HPOST.out _ _ _ E.out ⟨none, 0, rfl, Or.inl rfl, ?_⟩)
      exact (((((HB4.out.2.2.setCell (by simp) _).setCell (by simp) _).setCell (by simp) _).setCell (by simp) _).setCell (by simp) _)

set_option maxRecDepth 100000 in
set_option maxHeartbeats 16000000 in
theorem specDecR6_any (s : ByteArray) (w : World) (hs : s.size ≤ 1048576) (hk : (lqK s).1 = 6) :
    Calls Tryd.prog 10 #[.string s] w fun e w' => DecROut s w e w' := by
  have hsL : s.size ≤ 1000000000 := by omega
  have hk2 : (((lqK s).1 : Nat) : Int) = 6 := by rw [hk]; rfl
  have eT : lqT s = lPart s 1 (lqK s).2 := by rw [lqT, hk2, if_pos (by decide)]
  have eM : lqM s = (ByteArray.empty, (lqT s).2) := by rw [lqM, hk2, if_neg (by decide)]
  have eN : lqN s = (0, (lqT s).2) := by rw [lqN, hk2, if_neg (by decide), eM]
  have eS : (lqS s).1 = [] := by rw [lqS, if_neg (by omega)]
  have eR : lRq s = ⟨6, (lqT s).1, ByteArray.empty, 0, []⟩ := by rw [lRq, hk2, eS, eN, eM]
  have HN0 : Hid (∀ W, Calls Tryd.prog 23 #[.string s, .int .i64 0, .int .i64 1] W fun e w' => e = .returned (.tuple #[.int .i64 6, .int .i64 (posV (lqK s).2)]) ∧ w' = W) := fun W => by
    have := specNumL_any s 1 (some 0) W hsL (fun q h => by cases h; omega) (by omega)
    rw [show lNum s 1 (some 0) = lqK s from rfl, hk, wrapN_small (by omega)] at this
    exact this
  have hpK : ∀ q, (lqK s).2 = some q → q ≤ s.size := fun q h => lNum_le (s := s) (n := 1) (p := some 0) h
  have HT : Hid (∀ W, Calls Tryd.prog 24 #[.string s, .int .i64 (posV (lqK s).2), .int .i64 1] W fun e w' => e = .returned (.tuple #[.string (lqT s).1, .int .i64 (posV (lqT s).2)]) ∧ w' = W) := fun W => by
    have := specPartL_any s 1 (lqK s).2 W hsL (fun q h => by have := hpK q h; omega) (by omega)
    rw [← eT] at this
    exact this
  have hpT : ∀ q, (lqT s).2 = some q → q ≤ s.size := fun q h => by rw [eT] at h; exact lPart_le h
  have HEN : Hid (∀ W, Calls Tryd.prog 6 #[.agg #[.int .i64 6, .string (lqT s).1, .string ByteArray.empty, .int .i64 0, .slice none 0 0]] W fun e w' => e = .returned (.string (reqB (lRq s))) ∧ Below W.heap.size W w') := fun W => by
    have h1 := lRq_bulk s
    have h2 := lRq_rng s
    rw [eR] at h1 h2 ⊢
    exact specReq_any ⟨6, (lqT s).1, ByteArray.empty, 0, []⟩ none 0 W (Or.inl rfl) (Nat.le_trans h1 hs) h2.1 h2.2
  have HYES : Hid (s.size ≠ 0 → reqB (lRq s) = s → decR s = (⟨6, (lqT s).1, ByteArray.empty, 0, []⟩, true)) := fun h1 h2 => by rw [← eR]; exact looseR_yes h1 h2
  have HNOT : Hid (¬ (s.size ≠ 0 ∧ reqB (lRq s) = s) → decR s = (⟨0, ByteArray.empty, ByteArray.empty, 0, []⟩, false)) := fun h => looseR_no h
  have HPOST : Hid (∀ (e : Ending) (w' : World) (D : ReqD × Bool), decR s = D → (∃ av cap, e = .returned (.tuple #[.agg #[.int .i64 D.1.kind, .string D.1.tenant, .string D.1.metric, .int .i64 D.1.num, .slice av D.1.smps.length cap], .bool D.2]) ∧ SmpsOwn w' w.heap.size av D.1.smps ∧ Below w.heap.size w w') → DecROut s w e w') := fun e w' D h hh => by subst h; exact hh
  clear eT eM eN eR hpK hk2 eS hpT
  clear hk
  generalize reqB (lRq s) = EB at *
  generalize DecROut s w = Post at *
  generalize posV (lqK s).2 = pK at *
  generalize posV (lqT s).2 = pT at *
  generalize (lqT s).1 = te at *
  go_enter Tryd.func10, Tryd.ntmps10
  go_wp2_with fail
  refine (HN0.out _).mono ?_
  rintro e wx ⟨rfl, hw⟩
  replace hw := hw.symm
  subst hw
  have G0 : Hid (GS w ((w.alloc (.cells #[.int .i64 0, .string ⟨#[]⟩, .string ⟨#[]⟩, .int .i64 0, .slice none 0 0] 29)).alloc (.cells #[.int .i64 0, .string ⟨#[]⟩, .string ⟨#[]⟩, .int .i64 0, .slice none 0 0] 29)) #[.int .i64 0, .string ByteArray.empty, .string ByteArray.empty, .int .i64 0, .slice none 0 0]) := GS.start w
  generalize (w.alloc (.cells #[.int .i64 0, .string ⟨#[]⟩, .string ⟨#[]⟩, .int .i64 0, .slice none 0 0] 29)).alloc (.cells #[.int .i64 0, .string ⟨#[]⟩, .string ⟨#[]⟩, .int .i64 0, .slice none 0 0] 29) = W0 at *
  have c0 : W0.cell? ⟨(w.heap.size + 1), 0, none⟩ = some (.int .i64 0) := G0.out.1.cell 0
  have c1 := G0.out.1.free 0
  go_upto_region 4 with fail
  have G1 := hid (G0.out.set 0 (.int .i64 6))
  clear c0 c1 G0
  generalize W0.setCell ⟨(w.heap.size + 1), 0, none⟩ (.int .i64 6) = W1 at *
  clear W0
  replace G1 : Hid (GS w W1 #[.int .i64 6, .string ByteArray.empty, .string ByteArray.empty, .int .i64 0, .slice none 0 0]) := G1
  go_wp2_with fail
  refine (HT.out _).mono ?_
  rintro e wx ⟨rfl, hw⟩
  replace hw := hw.symm
  subst hw
  have c0 : W1.cell? ⟨(w.heap.size + 1), 1, none⟩ = some (.string ByteArray.empty) := G1.out.1.cell 1
  have c1 := G1.out.1.free 1
  go_upto_region 8 with fail
  have G2 := hid (G1.out.set 1 (.string te))
  clear c0 c1 G1
  generalize W1.setCell ⟨(w.heap.size + 1), 1, none⟩ (.string te) = W2 at *
  clear W1
  replace G2 : Hid (GS w W2 #[.int .i64 6, .string te, .string ByteArray.empty, .int .i64 0, .slice none 0 0]) := G2
  have x0 : W2.cell? ⟨(w.heap.size + 1), 0, none⟩ = some (.int .i64 6) := G2.out.1.cell 0
  have x1 : W2.cell? ⟨(w.heap.size + 1), 1, none⟩ = some (.string te) := G2.out.1.cell 1
  have x2 : W2.cell? ⟨(w.heap.size + 1), 2, none⟩ = some (.string ByteArray.empty) := G2.out.1.cell 2
  have x3 : W2.cell? ⟨(w.heap.size + 1), 3, none⟩ = some (.int .i64 0) := G2.out.1.cell 3
  have x4 : W2.cell? ⟨(w.heap.size + 1), 4, none⟩ = some (.slice none 0 0) := G2.out.1.cell 4
  have y0 : W2.cell? ⟨w.heap.size, 0, none⟩ = some (.int .i64 0) := G2.out.2.1.cell 0
  have f0 := G2.out.2.1.free 0
  have y1 : W2.cell? ⟨w.heap.size, 1, none⟩ = some (.string ByteArray.empty) := G2.out.2.1.cell 1
  have f1 := G2.out.2.1.free 1
  have y2 : W2.cell? ⟨w.heap.size, 2, none⟩ = some (.string ByteArray.empty) := G2.out.2.1.cell 2
  have f2 := G2.out.2.1.free 2
  have y3 : W2.cell? ⟨w.heap.size, 3, none⟩ = some (.int .i64 0) := G2.out.2.1.cell 3
  have f3 := G2.out.2.1.free 3
  have y4 : W2.cell? ⟨w.heap.size, 4, none⟩ = some (.slice none 0 0) := G2.out.2.1.cell 4
  have f4 := G2.out.2.1.free 4
  by_cases hs0 : s.size = 0
  · have E : Hid (decR s = (⟨0, ByteArray.empty, ByteArray.empty, 0, []⟩, false)) := HNOT.out (fun h => h.1 hs0)
    have hd : (s.toList == []) = true := by rw [bemptyRq]; exact decide_eq_true hs0
    have hde : s.toList.isEmpty = true := by simpa using hd
    clear hs0
    go_wp2
    refine bodyPost_ret (v := .tuple #[.agg #[.int .i64 0, .string ByteArray.empty, .string ByteArray.empty, .int .i64 0, .slice none 0 0], .bool false]) (by simp [results, Tryd.results10, go_sem, y0, y1, y2, y3, y4]; rfl) rfl (HPOST.out _ _ _ E.out ⟨none, 0, rfl, Or.inl rfl, ?_⟩)
    exact (((((G2.out.2.2.setCell (by simp) _).setCell (by simp) _).setCell (by simp) _).setCell (by simp) _).setCell (by simp) _)
  · have hd : (s.toList == []) = false := by rw [bemptyRq]; exact decide_eq_false hs0
    have hde : s.toList.isEmpty = false := by simpa using hd
    by_cases heq : EB = s
    · have E : Hid (decR s = (⟨6, te, ByteArray.empty, 0, []⟩, true)) := HYES.out hs0 heq
      subst heq
      have hR : (EB.toList != EB.toList) = false := by simp
      clear hs0
      go_wp2_with fail
      refine (HEN.out _).mono ?_
      rintro e w4 ⟨rfl, hb4⟩
      have HB4 : Hid (GS w w4 #[.int .i64 6, .string te, .string ByteArray.empty, .int .i64 0, .slice none 0 0]) := G2.out.later hb4
      skip
      clear hb4
      clear x0 y0 f0 x1 y1 f1 x2 y2 f2 x3 y3 f3 x4 y4 f4
      have x0 : w4.cell? ⟨(w.heap.size + 1), 0, none⟩ = some (.int .i64 6) := HB4.out.1.cell 0
      have x1 : w4.cell? ⟨(w.heap.size + 1), 1, none⟩ = some (.string te) := HB4.out.1.cell 1
      have x2 : w4.cell? ⟨(w.heap.size + 1), 2, none⟩ = some (.string ByteArray.empty) := HB4.out.1.cell 2
      have x3 : w4.cell? ⟨(w.heap.size + 1), 3, none⟩ = some (.int .i64 0) := HB4.out.1.cell 3
      have x4 : w4.cell? ⟨(w.heap.size + 1), 4, none⟩ = some (.slice none 0 0) := HB4.out.1.cell 4
      have y0 : w4.cell? ⟨w.heap.size, 0, none⟩ = some (.int .i64 0) := HB4.out.2.1.cell 0
      have f0 := HB4.out.2.1.free 0
      have y1 : w4.cell? ⟨w.heap.size, 1, none⟩ = some (.string ByteArray.empty) := HB4.out.2.1.cell 1
      have f1 := HB4.out.2.1.free 1
      have y2 : w4.cell? ⟨w.heap.size, 2, none⟩ = some (.string ByteArray.empty) := HB4.out.2.1.cell 2
      have f2 := HB4.out.2.1.free 2
      have y3 : w4.cell? ⟨w.heap.size, 3, none⟩ = some (.int .i64 0) := HB4.out.2.1.cell 3
      have f3 := HB4.out.2.1.free 3
      have y4 : w4.cell? ⟨w.heap.size, 4, none⟩ = some (.slice none 0 0) := HB4.out.2.1.cell 4
      have f4 := HB4.out.2.1.free 4
      go_wp2
      refine bodyPost_ret (v := .tuple #[.agg #[.int .i64 6, .string te, .string ByteArray.empty, .int .i64 0, .slice none 0 0], .bool true]) (by simp [results, Tryd.results10, go_sem, y0, y1, y2, y3, y4]) rfl (HPOST.out _ _ _ E.out ⟨none, 0, rfl, ?_, ?_⟩)
      · exact Or.inl rfl
      · exact (((((HB4.out.2.2.setCell (by simp) _).setCell (by simp) _).setCell (by simp) _).setCell (by simp) _).setCell (by simp) _)
    · have E : Hid (decR s = (⟨0, ByteArray.empty, ByteArray.empty, 0, []⟩, false)) := HNOT.out (fun h => heq h.2)
      have hR : (EB.toList == s.toList) = false := by
        apply Bool.eq_false_iff.2
        intro h
        replace h := eq_of_beq h
        apply heq
        apply bext
        rw [ByteArray.toList_eq, ByteArray.toList_eq] at h
        exact h
      clear hs0 heq
      go_wp2_with fail
      refine (HEN.out _).mono ?_
      rintro e w4 ⟨rfl, hb4⟩
      have HB4 : Hid (GS w w4 #[.int .i64 6, .string te, .string ByteArray.empty, .int .i64 0, .slice none 0 0]) := G2.out.later hb4
      skip
      clear hb4
      clear x0 y0 f0 x1 y1 f1 x2 y2 f2 x3 y3 f3 x4 y4 f4
      have x0 : w4.cell? ⟨(w.heap.size + 1), 0, none⟩ = some (.int .i64 6) := HB4.out.1.cell 0
      have x1 : w4.cell? ⟨(w.heap.size + 1), 1, none⟩ = some (.string te) := HB4.out.1.cell 1
      have x2 : w4.cell? ⟨(w.heap.size + 1), 2, none⟩ = some (.string ByteArray.empty) := HB4.out.1.cell 2
      have x3 : w4.cell? ⟨(w.heap.size + 1), 3, none⟩ = some (.int .i64 0) := HB4.out.1.cell 3
      have x4 : w4.cell? ⟨(w.heap.size + 1), 4, none⟩ = some (.slice none 0 0) := HB4.out.1.cell 4
      have y0 : w4.cell? ⟨w.heap.size, 0, none⟩ = some (.int .i64 0) := HB4.out.2.1.cell 0
      have f0 := HB4.out.2.1.free 0
      have y1 : w4.cell? ⟨w.heap.size, 1, none⟩ = some (.string ByteArray.empty) := HB4.out.2.1.cell 1
      have f1 := HB4.out.2.1.free 1
      have y2 : w4.cell? ⟨w.heap.size, 2, none⟩ = some (.string ByteArray.empty) := HB4.out.2.1.cell 2
      have f2 := HB4.out.2.1.free 2
      have y3 : w4.cell? ⟨w.heap.size, 3, none⟩ = some (.int .i64 0) := HB4.out.2.1.cell 3
      have f3 := HB4.out.2.1.free 3
      have y4 : w4.cell? ⟨w.heap.size, 4, none⟩ = some (.slice none 0 0) := HB4.out.2.1.cell 4
      have f4 := HB4.out.2.1.free 4
      go_wp2
      refine bodyPost_ret (v := .tuple #[.agg #[.int .i64 0, .string ByteArray.empty, .string ByteArray.empty, .int .i64 0, .slice none 0 0], .bool false]) (by simp [results, Tryd.results10, go_sem, y0, y1, y2, y3, y4]; rfl) rfl (HPOST.out _ _ _ E.out ⟨none, 0, rfl, Or.inl rfl, ?_⟩)
      exact (((((HB4.out.2.2.setCell (by simp) _).setCell (by simp) _).setCell (by simp) _).setCell (by simp) _).setCell (by simp) _)

set_option maxRecDepth 100000 in
set_option maxHeartbeats 16000000 in
theorem specDecRbad_any (s : ByteArray) (w : World) (hs : s.size ≤ 1048576) (hk : ¬ (1 ≤ (lqK s).1 ∧ (lqK s).1 ≤ 6)) :
    Calls Tryd.prog 10 #[.string s] w fun e w' => DecROut s w e w' := by
  have hsL : s.size ≤ 1000000000 := by omega
  have hcap : (lqK s).1 < 256 := lNumZ_cap s 1 _
  have hkk : tnK ((lqK s).1 : Nat) = false ∧ mtK ((lqK s).1 : Nat) = false ∧ nmK ((lqK s).1 : Nat) = false := by
    have h1 : ((lqK s).1 : Int) ≠ 1 ∧ ((lqK s).1 : Int) ≠ 2 ∧ ((lqK s).1 : Int) ≠ 3 ∧ ((lqK s).1 : Int) ≠ 4 ∧ ((lqK s).1 : Int) ≠ 5 ∧ ((lqK s).1 : Int) ≠ 6 := by omega
    generalize ((lqK s).1 : Int) = K at *
    unfold tnK mtK nmK
    simp [h1]
  have eT : lqT s = (ByteArray.empty, (lqK s).2) := by rw [lqT, if_neg (by rw [hkk.1]; decide)]
  have eM : lqM s = (ByteArray.empty, (lqK s).2) := by rw [lqM, if_neg (by rw [hkk.2.1]; decide), eT]
  have eN : lqN s = (0, (lqK s).2) := by rw [lqN, if_neg (by rw [hkk.2.2]; decide), eM]
  have eS : (lqS s).1 = [] := by rw [lqS, if_neg (by omega)]
  have eR : lRq s = ⟨((lqK s).1 : Nat), ByteArray.empty, ByteArray.empty, 0, []⟩ := by rw [lRq, eS, eN, eM, eT]
  have HN0 : Hid (∀ W, Calls Tryd.prog 23 #[.string s, .int .i64 0, .int .i64 1] W fun e w' => e = .returned (.tuple #[.int .i64 ((lqK s).1 : Nat), .int .i64 (posV (lqK s).2)]) ∧ w' = W) := fun W => by
    have := specNumL_any s 1 (some 0) W hsL (fun q h => by cases h; omega) (by omega)
    rw [show lNum s 1 (some 0) = lqK s from rfl, wrapN_small (by omega)] at this
    exact this
  have hpK : ∀ q, (lqK s).2 = some q → q ≤ s.size := fun q h => lNum_le (s := s) (n := 1) (p := some 0) h
  have HEN : Hid (∀ W, Calls Tryd.prog 6 #[.agg #[.int .i64 ((lqK s).1 : Nat), .string ByteArray.empty, .string ByteArray.empty, .int .i64 0, .slice none 0 0]] W fun e w' => e = .returned (.string (reqB (lRq s))) ∧ Below W.heap.size W w') := fun W => by
    have h1 := lRq_bulk s
    have h2 := lRq_rng s
    rw [eR] at h1 h2 ⊢
    exact specReq_any ⟨((lqK s).1 : Nat), ByteArray.empty, ByteArray.empty, 0, []⟩ none 0 W (Or.inl rfl) (Nat.le_trans h1 hs) h2.1 h2.2
  have HYES : Hid (s.size ≠ 0 → reqB (lRq s) = s → decR s = (⟨((lqK s).1 : Nat), ByteArray.empty, ByteArray.empty, 0, []⟩, true)) := fun h1 h2 => by rw [← eR]; exact looseR_yes h1 h2
  have HNOT : Hid (¬ (s.size ≠ 0 ∧ reqB (lRq s) = s) → decR s = (⟨0, ByteArray.empty, ByteArray.empty, 0, []⟩, false)) := fun h => looseR_no h
  have HPOST : Hid (∀ (e : Ending) (w' : World) (D : ReqD × Bool), decR s = D → (∃ av cap, e = .returned (.tuple #[.agg #[.int .i64 D.1.kind, .string D.1.tenant, .string D.1.metric, .int .i64 D.1.num, .slice av D.1.smps.length cap], .bool D.2]) ∧ SmpsOwn w' w.heap.size av D.1.smps ∧ Below w.heap.size w w') → DecROut s w e w') := fun e w' D h hh => by subst h; exact hh
  clear eT eM eN eR hpK hkk hcap eS
  have hK1 : ((lqK s).1 : Int) ≠ 1 ∧ ((lqK s).1 : Int) ≠ 2 ∧ ((lqK s).1 : Int) ≠ 3 ∧ ((lqK s).1 : Int) ≠ 4 ∧ ((lqK s).1 : Int) ≠ 5 ∧ ((lqK s).1 : Int) ≠ 6 := by omega
  clear hk
  generalize reqB (lRq s) = EB at *
  generalize DecROut s w = Post at *
  generalize posV (lqK s).2 = pK at *
  generalize (((lqK s).1 : Nat) : Int) = K at *
  obtain ⟨q1, q2, q3, q4, q5, q6⟩ := hK1
  have b1 : (K == 1) = false := by simp [q1]
  have b2 : (K == 2) = false := by simp [q2]
  have b3 : (K == 3) = false := by simp [q3]
  have b5 : (K == 5) = false := by simp [q5]
  have b6 : (K == 6) = false := by simp [q6]
  clear q1 q2 q3 q4 q5 q6
  go_enter Tryd.func10, Tryd.ntmps10
  go_wp2_with fail
  refine (HN0.out _).mono ?_
  rintro e wx ⟨rfl, hw⟩
  replace hw := hw.symm
  subst hw
  have G0 : Hid (GS w ((w.alloc (.cells #[.int .i64 0, .string ⟨#[]⟩, .string ⟨#[]⟩, .int .i64 0, .slice none 0 0] 29)).alloc (.cells #[.int .i64 0, .string ⟨#[]⟩, .string ⟨#[]⟩, .int .i64 0, .slice none 0 0] 29)) #[.int .i64 0, .string ByteArray.empty, .string ByteArray.empty, .int .i64 0, .slice none 0 0]) := GS.start w
  generalize (w.alloc (.cells #[.int .i64 0, .string ⟨#[]⟩, .string ⟨#[]⟩, .int .i64 0, .slice none 0 0] 29)).alloc (.cells #[.int .i64 0, .string ⟨#[]⟩, .string ⟨#[]⟩, .int .i64 0, .slice none 0 0] 29) = W0 at *
  have c0 : W0.cell? ⟨(w.heap.size + 1), 0, none⟩ = some (.int .i64 0) := G0.out.1.cell 0
  have c1 := G0.out.1.free 0
  go_upto_region 4 with fail
  have G1 := hid (G0.out.set 0 (.int .i64 K))
  clear c0 c1 G0
  generalize W0.setCell ⟨(w.heap.size + 1), 0, none⟩ (.int .i64 K) = W1 at *
  clear W0
  replace G1 : Hid (GS w W1 #[.int .i64 K, .string ByteArray.empty, .string ByteArray.empty, .int .i64 0, .slice none 0 0]) := G1
  have x0 : W1.cell? ⟨(w.heap.size + 1), 0, none⟩ = some (.int .i64 K) := G1.out.1.cell 0
  have x1 : W1.cell? ⟨(w.heap.size + 1), 1, none⟩ = some (.string ByteArray.empty) := G1.out.1.cell 1
  have x2 : W1.cell? ⟨(w.heap.size + 1), 2, none⟩ = some (.string ByteArray.empty) := G1.out.1.cell 2
  have x3 : W1.cell? ⟨(w.heap.size + 1), 3, none⟩ = some (.int .i64 0) := G1.out.1.cell 3
  have x4 : W1.cell? ⟨(w.heap.size + 1), 4, none⟩ = some (.slice none 0 0) := G1.out.1.cell 4
  have y0 : W1.cell? ⟨w.heap.size, 0, none⟩ = some (.int .i64 0) := G1.out.2.1.cell 0
  have f0 := G1.out.2.1.free 0
  have y1 : W1.cell? ⟨w.heap.size, 1, none⟩ = some (.string ByteArray.empty) := G1.out.2.1.cell 1
  have f1 := G1.out.2.1.free 1
  have y2 : W1.cell? ⟨w.heap.size, 2, none⟩ = some (.string ByteArray.empty) := G1.out.2.1.cell 2
  have f2 := G1.out.2.1.free 2
  have y3 : W1.cell? ⟨w.heap.size, 3, none⟩ = some (.int .i64 0) := G1.out.2.1.cell 3
  have f3 := G1.out.2.1.free 3
  have y4 : W1.cell? ⟨w.heap.size, 4, none⟩ = some (.slice none 0 0) := G1.out.2.1.cell 4
  have f4 := G1.out.2.1.free 4
  by_cases hs0 : s.size = 0
  · have E : Hid (decR s = (⟨0, ByteArray.empty, ByteArray.empty, 0, []⟩, false)) := HNOT.out (fun h => h.1 hs0)
    have hd : (s.toList == []) = true := by rw [bemptyRq]; exact decide_eq_true hs0
    have hde : s.toList.isEmpty = true := by simpa using hd
    clear hs0
    go_wp2
    refine bodyPost_ret (v := .tuple #[.agg #[.int .i64 0, .string ByteArray.empty, .string ByteArray.empty, .int .i64 0, .slice none 0 0], .bool false]) (by simp [results, Tryd.results10, go_sem, y0, y1, y2, y3, y4]; rfl) rfl (HPOST.out _ _ _ E.out ⟨none, 0, rfl, Or.inl rfl, ?_⟩)
    exact (((((G1.out.2.2.setCell (by simp) _).setCell (by simp) _).setCell (by simp) _).setCell (by simp) _).setCell (by simp) _)
  · have hd : (s.toList == []) = false := by rw [bemptyRq]; exact decide_eq_false hs0
    have hde : s.toList.isEmpty = false := by simpa using hd
    by_cases heq : EB = s
    · have E : Hid (decR s = (⟨K, ByteArray.empty, ByteArray.empty, 0, []⟩, true)) := HYES.out hs0 heq
      subst heq
      have hR : (EB.toList != EB.toList) = false := by simp
      clear hs0
      go_wp2_with fail
      refine (HEN.out _).mono ?_
      rintro e w4 ⟨rfl, hb4⟩
      have HB4 : Hid (GS w w4 #[.int .i64 K, .string ByteArray.empty, .string ByteArray.empty, .int .i64 0, .slice none 0 0]) := G1.out.later hb4
      skip
      clear hb4
      clear x0 y0 f0 x1 y1 f1 x2 y2 f2 x3 y3 f3 x4 y4 f4
      have x0 : w4.cell? ⟨(w.heap.size + 1), 0, none⟩ = some (.int .i64 K) := HB4.out.1.cell 0
      have x1 : w4.cell? ⟨(w.heap.size + 1), 1, none⟩ = some (.string ByteArray.empty) := HB4.out.1.cell 1
      have x2 : w4.cell? ⟨(w.heap.size + 1), 2, none⟩ = some (.string ByteArray.empty) := HB4.out.1.cell 2
      have x3 : w4.cell? ⟨(w.heap.size + 1), 3, none⟩ = some (.int .i64 0) := HB4.out.1.cell 3
      have x4 : w4.cell? ⟨(w.heap.size + 1), 4, none⟩ = some (.slice none 0 0) := HB4.out.1.cell 4
      have y0 : w4.cell? ⟨w.heap.size, 0, none⟩ = some (.int .i64 0) := HB4.out.2.1.cell 0
      have f0 := HB4.out.2.1.free 0
      have y1 : w4.cell? ⟨w.heap.size, 1, none⟩ = some (.string ByteArray.empty) := HB4.out.2.1.cell 1
      have f1 := HB4.out.2.1.free 1
      have y2 : w4.cell? ⟨w.heap.size, 2, none⟩ = some (.string ByteArray.empty) := HB4.out.2.1.cell 2
      have f2 := HB4.out.2.1.free 2
      have y3 : w4.cell? ⟨w.heap.size, 3, none⟩ = some (.int .i64 0) := HB4.out.2.1.cell 3
      have f3 := HB4.out.2.1.free 3
      have y4 : w4.cell? ⟨w.heap.size, 4, none⟩ = some (.slice none 0 0) := HB4.out.2.1.cell 4
      have f4 := HB4.out.2.1.free 4
      go_wp2
      refine bodyPost_ret (v := .tuple #[.agg #[.int .i64 K, .string ByteArray.empty, .string ByteArray.empty, .int .i64 0, .slice none 0 0], .bool true]) (by simp [results, Tryd.results10, go_sem, y0, y1, y2, y3, y4]) rfl (HPOST.out _ _ _ E.out ⟨none, 0, rfl, ?_, ?_⟩)
      · exact Or.inl rfl
      · exact (((((HB4.out.2.2.setCell (by simp) _).setCell (by simp) _).setCell (by simp) _).setCell (by simp) _).setCell (by simp) _)
    · have E : Hid (decR s = (⟨0, ByteArray.empty, ByteArray.empty, 0, []⟩, false)) := HNOT.out (fun h => heq h.2)
      have hR : (EB.toList == s.toList) = false := by
        apply Bool.eq_false_iff.2
        intro h
        replace h := eq_of_beq h
        apply heq
        apply bext
        rw [ByteArray.toList_eq, ByteArray.toList_eq] at h
        exact h
      clear hs0 heq
      go_wp2_with fail
      refine (HEN.out _).mono ?_
      rintro e w4 ⟨rfl, hb4⟩
      have HB4 : Hid (GS w w4 #[.int .i64 K, .string ByteArray.empty, .string ByteArray.empty, .int .i64 0, .slice none 0 0]) := G1.out.later hb4
      skip
      clear hb4
      clear x0 y0 f0 x1 y1 f1 x2 y2 f2 x3 y3 f3 x4 y4 f4
      have x0 : w4.cell? ⟨(w.heap.size + 1), 0, none⟩ = some (.int .i64 K) := HB4.out.1.cell 0
      have x1 : w4.cell? ⟨(w.heap.size + 1), 1, none⟩ = some (.string ByteArray.empty) := HB4.out.1.cell 1
      have x2 : w4.cell? ⟨(w.heap.size + 1), 2, none⟩ = some (.string ByteArray.empty) := HB4.out.1.cell 2
      have x3 : w4.cell? ⟨(w.heap.size + 1), 3, none⟩ = some (.int .i64 0) := HB4.out.1.cell 3
      have x4 : w4.cell? ⟨(w.heap.size + 1), 4, none⟩ = some (.slice none 0 0) := HB4.out.1.cell 4
      have y0 : w4.cell? ⟨w.heap.size, 0, none⟩ = some (.int .i64 0) := HB4.out.2.1.cell 0
      have f0 := HB4.out.2.1.free 0
      have y1 : w4.cell? ⟨w.heap.size, 1, none⟩ = some (.string ByteArray.empty) := HB4.out.2.1.cell 1
      have f1 := HB4.out.2.1.free 1
      have y2 : w4.cell? ⟨w.heap.size, 2, none⟩ = some (.string ByteArray.empty) := HB4.out.2.1.cell 2
      have f2 := HB4.out.2.1.free 2
      have y3 : w4.cell? ⟨w.heap.size, 3, none⟩ = some (.int .i64 0) := HB4.out.2.1.cell 3
      have f3 := HB4.out.2.1.free 3
      have y4 : w4.cell? ⟨w.heap.size, 4, none⟩ = some (.slice none 0 0) := HB4.out.2.1.cell 4
      have f4 := HB4.out.2.1.free 4
      go_wp2
      refine bodyPost_ret (v := .tuple #[.agg #[.int .i64 0, .string ByteArray.empty, .string ByteArray.empty, .int .i64 0, .slice none 0 0], .bool false]) (by simp [results, Tryd.results10, go_sem, y0, y1, y2, y3, y4]; rfl) rfl (HPOST.out _ _ _ E.out ⟨none, 0, rfl, Or.inl rfl, ?_⟩)
      exact (((((HB4.out.2.2.setCell (by simp) _).setCell (by simp) _).setCell (by simp) _).setCell (by simp) _).setCell (by simp) _)
end Go.Proofs.YtoecnlhnfhongaaDoor

