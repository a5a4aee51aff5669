import Derived.Test.YtoecnlhnfhongaaDoorProg
import Derived.Test.YtoecnlhnfhongaaDoorJ03RqD
import Derived.Test.YtoecnlhnfhongaaDoorJ09IKeyO
import Derived.Test.YtoecnlhnfhongaaDoorJ04AppA
import Derived.Deep.AppendLies
import Derived.Deep.DeepCutAuto
namespace Go.Proofs.YtoecnlhnfhongaaDoor
open Go.RowKit

theorem implU8r_any (v : Int) (w : World) : Calls Tryd.prog 38 #[.int .i64 v] w fun e w' => e = .returned (.string (numS 1 v)) ∧ Below w.heap.size w w' := by
  have HC : Hid (∀ W, Calls Tryd.prog 55 #[.int .i64 v, .int .i64 1] W fun e w' => e = .returned (.string (numS 1 v)) ∧ Below W.heap.size W w') := fun W => implHigh_any 1 v W (by omega)
  generalize numS 1 v = N at *
  go_enter Tryd.func38, Tryd.ntmps38
  go_wp2_with fail
  refine (HC.out _).mono ?_
  rintro e w1 ⟨rfl, hb1⟩
  have HB : Hid (Below w.heap.size w w1) := hb1
  clear hb1
  go_wp2
  go_ret
  exact ⟨rfl, HB.out⟩
theorem implU16r_any (v : Int) (w : World) : Calls Tryd.prog 40 #[.int .i64 v] w fun e w' => e = .returned (.string (numS 2 v)) ∧ Below w.heap.size w w' := by
  have HC : Hid (∀ W, Calls Tryd.prog 55 #[.int .i64 v, .int .i64 2] W fun e w' => e = .returned (.string (numS 2 v)) ∧ Below W.heap.size W w') := fun W => implHigh_any 2 v W (by omega)
  generalize numS 2 v = N at *
  go_enter Tryd.func40, Tryd.ntmps40
  go_wp2_with fail
  refine (HC.out _).mono ?_
  rintro e w1 ⟨rfl, hb1⟩
  have HB : Hid (Below w.heap.size w w1) := hb1
  clear hb1
  go_wp2
  go_ret
  exact ⟨rfl, HB.out⟩
theorem implU64r_any (v : Int) (w : World) : Calls Tryd.prog 42 #[.int .i64 v] w fun e w' => e = .returned (.string (numS 8 v)) ∧ Below w.heap.size w w' := by
  have HC : Hid (∀ W, Calls Tryd.prog 55 #[.int .i64 v, .int .i64 8] W fun e w' => e = .returned (.string (numS 8 v)) ∧ Below W.heap.size W w') := fun W => implHigh_any 8 v W (by omega)
  generalize numS 8 v = N at *
  go_enter Tryd.func42, Tryd.ntmps42
  go_wp2_with fail
  refine (HC.out _).mono ?_
  rintro e w1 ⟨rfl, hb1⟩
  have HB : Hid (Below w.heap.size w w1) := hb1
  clear hb1
  go_wp2
  go_ret
  exact ⟨rfl, HB.out⟩

/-- The parts that are being gathered: the two boxes and the row. -/
def GE (w w' : World) (t s m n c : Bool) (k : Int) (te me : ByteArray) (nu : Int) (sl v : Value) (z : Nat) (ps : List ByteArray) : Prop :=
  Blk w' w.heap.size #[.bool t, .bool s, .bool m, .bool n, .bool c] 43 ∧ Blk w' (w.heap.size + 1) #[.int .i64 k, .string te, .string me, .int .i64 nu, sl] 29 ∧ w'.ownsRow (w.heap.size + 1 + 1) 9 1 v z (ps.map Value.string) ∧ Below w.heap.size w w' ∧ z = ps.length
theorem GE.later {w w' w'' : World} {t s m n c : Bool} {k : Int} {te me : ByteArray} {nu : Int} {sl v : Value} {z : Nat} {ps : List ByteArray} (h : GE w w' t s m n c k te me nu sl v z ps) (hb : Below w'.heap.size w' w'') : GE w w'' t s m n c k te me nu sl v z ps :=
  ⟨h.1.later hb, h.2.1.later hb, row_later h.2.2.1 hb, bto h.2.2.2.1 hb, h.2.2.2.2⟩
theorem GE.lt {w w' : World} {t s m n c : Bool} {k : Int} {te me : ByteArray} {nu : Int} {sl v : Value} {z : Nat} {ps : List ByteArray} (h : GE w w' t s m n c k te me nu sl v z ps) : ∀ g, v.ownBlock = some g → w.heap.size + 1 + 1 ≤ g ∧ g < w'.heap.size := fun g hg => h.2.2.1.lt g hg
theorem GE.size {w w' : World} {t s m n c : Bool} {k : Int} {te me : ByteArray} {nu : Int} {sl v : Value} {z : Nat} {ps : List ByteArray} (h : GE w w' t s m n c k te me nu sl v z ps) : w.heap.size + 1 + 1 ≤ w'.heap.size := lt_of_block h.2.1
theorem GE.grow {w W w5 : World} {t s m n c : Bool} {k : Int} {te me : ByteArray} {nu : Int} {sl v v5 : Value} {z d : Nat} {ps qs : List ByteArray} (h : GE w W t s m n c k te me nu sl v z ps) (hown : w5.ownsRow (w.heap.size + 1 + 1) 9 1 v5 (z + d) (ps.map Value.string ++ qs.map Value.string)) (hd : d = qs.length) (hg : W.grownBy w5 v.ownBlock) : GE w w5 t s m n c k te me nu sl v5 (z + d) (ps ++ qs) := by
  refine ⟨(Turn.grown hg).blk h.1 (fun e => by have := h.lt _ e; omega), (Turn.grown hg).blk h.2.1 (fun e => by have := h.lt _ e; omega), by rw [List.map_append]; exact hown, ?_, by rw [List.length_append, ← hd, h.2.2.2.2]⟩
  exact h.2.2.2.1.grown hg (by have := h.size; omega) (fun q hq => by have := h.lt q hq; omega)
theorem GE.made {w w1 : World} {t s m n c : Bool} {k : Int} {te me : ByteArray} {nu : Int} {sl : Value} {N1 : ByteArray} (hb : Below ((w.alloc (.cells #[.bool t, .bool s, .bool m, .bool n, .bool c] 43)).alloc (.cells #[.int .i64 k, .string te, .string me, .int .i64 nu, sl] 29)).heap.size ((w.alloc (.cells #[.bool t, .bool s, .bool m, .bool n, .bool c] 43)).alloc (.cells #[.int .i64 k, .string te, .string me, .int .i64 nu, sl] 29)) w1) :
    GE w (w1.alloc (.cells #[.string N1] 9)) t s m n c k te me nu sl (.slice (some ⟨w1.heap.size, 0, none⟩) 1 1) 1 [N1] := by
  have hz : w.heap.size + 1 + 1 ≤ w1.heap.size := by have := hb.size; simpa using this
  refine ⟨((((Blk.new _ _ _).alloc _).later hb).alloc _), ?_, ⟨rfl, Or.inr ⟨w1.heap.size, 1, _, rfl, hz, heap_alloc_new _ _, Nat.le_refl _, by simp [maxLen], rfl, rfl⟩⟩, bto (bto (bto (bnew _ _) (bnew _ _)) hb) (bnew _ _), rfl⟩
  have := ((Blk.new (w.alloc (.cells #[.bool t, .bool s, .bool m, .bool n, .bool c] 43)) #[.int .i64 k, .string te, .string me, .int .i64 nu, sl] 29).later hb).alloc (.cells #[.string N1] 9)
  simpa using this
theorem GE.join {w w' : World} {t s m n c : Bool} {k : Int} {te me : ByteArray} {nu : Int} {sl : Value} {a : Option Addr} {z cap : Nat} {ps : List ByteArray} (h : GE w w' t s m n c k te me nu sl (.slice a z cap) z ps) (h1 : ps.length ≤ 1000000) (h0 : 0 < ps.length) (h2 : sumB ps ≤ 140737488355328) :
    Calls Tryd.prog 44 #[.slice a z cap] w' fun e w'' => e = .returned (.string (catB ps)) ∧ Below w'.heap.size w' w'' := by
  obtain ⟨_, _, hr, _, rfl⟩ := h
  obtain ⟨g, rfl⟩ : ∃ g, a = some ⟨g, 0, none⟩ := by
    rcases hr.2 with ⟨_, hz⟩ | ⟨g, cap', cur, he, _⟩
    · omega
    · simp only [Value.slice.injEq] at he
      exact ⟨g, he.1⟩
  obtain ⟨hcv, hg, hcs⟩ := strs_cells hr
  exact joined_any g ps.length cap ps w' rfl hcs hg hcv (by omega) h2
theorem form_sl {W : World} {B : Nat} {e : TypeId} {size : Nat} {v : Value} {n : Nat} {xs : List Value} (h : W.ownsRow B e size v n xs) : ∃ a c, v = .slice a n c := by
  rcases h.2 with ⟨rfl, rfl⟩ | ⟨g, cap, cur, rfl, _⟩
  · exact ⟨none, 0, rfl⟩
  · exact ⟨_, _, rfl⟩

def partsX (xs : List SmpD) : List ByteArray := xs.flatMap fun x => [keyB x.labs, numS 8 x.bits]
theorem partsX_take (xs : List SmpD) (k : Nat) (h : k < xs.length) : partsX (xs.take (k + 1)) = partsX (xs.take k) ++ [keyB xs[k].labs, numS 8 xs[k].bits] := by
  unfold partsX
  rw [List.take_succ_eq_append_getElem h, List.flatMap_append]
  rfl
theorem cat_partsX : ∀ (xs : List SmpD), catB (partsX xs) = encXs xs
  | [] => rfl
  | x :: q => by
    have e : partsX (x :: q) = [keyB x.labs, numS 8 x.bits] ++ partsX q := rfl
    rw [e, catB_append, cat_partsX q, encXs]
    simp [catB, encX]
theorem GE.grow5 {w W w5 : World} {t s m n c : Bool} {k : Int} {te me : ByteArray} {nu : Int} {sl v5 : Value} {g z cv d : Nat} {ps qs : List ByteArray} (h : GE w W t s m n c k te me nu sl (.slice (some ⟨g, 0, none⟩) z cv) z ps) (hown : w5.ownsRow (w.heap.size + 1 + 1) 9 1 v5 (z + d) (ps.map Value.string ++ qs.map Value.string)) (hd : d = qs.length) (hB : Below (w.heap.size + 1 + 1) W w5) (hk : ∀ q, q < W.heap.size → q ≠ g → w5.heap[q]? = W.heap[q]?) : GE w w5 t s m n c k te me nu sl v5 (z + d) (ps ++ qs) := by
  have hg := h.lt g rfl
  have hs := h.size
  refine ⟨(hk _ (by omega) (by omega)).trans h.1, (hk _ (by omega) (by omega)).trans h.2.1, by rw [List.map_append]; exact hown, h.2.2.2.1.trans (hB.mono (by omega)), by rw [List.length_append, ← hd, h.2.2.2.2]⟩

set_option maxRecDepth 100000 in
set_option maxHeartbeats 4000000 in
theorem encode1_any (te me : ByteArray) (nu : Int) (a : Option Addr) (cap : Nat) (w : World) (xs : List SmpD) (hf : SmpsIn w a xs) (hl : xs.length ≤ 500) (hlab : ∀ i (h : i < xs.length), xs[i].labs.length ≤ 255) (hbk : smpsBulk xs ≤ 1048576) (h1 : te.size ≤ 1048576) (_h2 : me.size ≤ 1048576) :
    Calls Tryd.prog 21 #[.agg #[.bool true, .bool true, .bool false, .bool false, .bool true], .agg #[.int .i64 1, .string te, .string me, .int .i64 nu, .slice a xs.length cap]] w fun e w' => e = .returned (.string (rqX ⟨1, te, me, nu, xs⟩)) ∧ Below w.heap.size w w' := by
  have HU : Hid (∀ W, Calls Tryd.prog 38 #[.int .i64 1] W fun e w' => e = .returned (.string (numS 1 1)) ∧ Below W.heap.size W w') := fun W => implU8r_any 1 W
  have z1 := numS_size 1 1
  have HT : Hid (∀ W, Calls Tryd.prog 39 #[.string te] W fun e w' => e = .returned (.string (s8B te)) ∧ Below W.heap.size W w') := fun W => implS8_any te W (by omega)
  have zt := s8B_size te
  have HC : Hid (∀ W, Calls Tryd.prog 40 #[.int .i64 (xs.length : Nat)] W fun e w' => e = .returned (.string (numS 2 (xs.length : Nat))) ∧ Below W.heap.size W w') := fun W => implU16r_any _ W
  have zc := numS_size 2 (xs.length : Nat)
  have HX : Hid (∀ ps, ps = [numS 1 1, s8B te, numS 2 (xs.length : Nat)] ++ partsX xs → catB ps = rqX ⟨1, te, me, nu, xs⟩) := fun ps h => by show _ = _; rw [h, rqX1, catB_append, cat_partsX]; simp [catB, ByteArray.append_assoc]
  generalize numS 1 1 = N1 at *
  generalize s8B te = ST at *
  generalize numS 2 (xs.length : Nat) = SC at *
  generalize rqX ⟨1, te, me, nu, xs⟩ = RX at *
  obtain ⟨ti, hti, ht0, ht1, ht2⟩ := info_strR
  have HI : Hid (Tryd.prog.info? 9 = some ti) := hti
  clear hti
  have HF : Hid (SmpsIn w a xs) := hf
  have HLAB := hid hlab
  clear hf hlab
  go_enter Tryd.func21, Tryd.ntmps21
  go_wp2_with fail
  refine (HU.out _).mono ?_
  rintro e w1 ⟨rfl, hb1⟩
  have G1 : Hid (GE w (w1.alloc (.cells #[.string N1] 9)) true true false false true 1 te me nu (.slice a xs.length cap) (.slice (some ⟨w1.heap.size, 0, none⟩) 1 1) (1) ([N1])) := GE.made hb1
  clear hb1
  go_upto_region 2 with fail
  generalize w1.alloc (.cells #[.string N1] 9) = W1 at *
  generalize w1.heap.size = g1 at *
  clear w1
  have s0 : W1.cell? ⟨w.heap.size, 0, none⟩ = some (.bool true) := G1.out.1.cell 0; have s1 : W1.cell? ⟨w.heap.size, 1, none⟩ = some (.bool true) := G1.out.1.cell 1; have s2 : W1.cell? ⟨w.heap.size, 2, none⟩ = some (.bool false) := G1.out.1.cell 2; have s3 : W1.cell? ⟨w.heap.size, 3, none⟩ = some (.bool false) := G1.out.1.cell 3; have r0 : W1.cell? ⟨w.heap.size + 1, 0, none⟩ = some (.int .i64 1) := G1.out.2.1.cell 0; have r1 : W1.cell? ⟨w.heap.size + 1, 1, none⟩ = some (.string te) := G1.out.2.1.cell 1; have r2 : W1.cell? ⟨w.heap.size + 1, 2, none⟩ = some (.string me) := G1.out.2.1.cell 2; have r3 : W1.cell? ⟨w.heap.size + 1, 3, none⟩ = some (.int .i64 nu) := G1.out.2.1.cell 3; have r4 : W1.cell? ⟨w.heap.size + 1, 4, none⟩ = some (.slice a xs.length cap) := G1.out.2.1.cell 4
  go_wp2_with fail
  refine (HT.out _).mono ?_
  rintro e u2w ⟨rfl, hb2⟩
  have G1' : Hid (GE w u2w true true false false true 1 te me nu (.slice a xs.length cap) (.slice (some ⟨g1, 0, none⟩) 1 1) (1) ([N1])) := G1.out.later hb2
  clear hb2 G1 s0 s1 s2 s3 r0 r1 r2 r3 r4
  go_wp2_with (at_builtin; refine wpList_append_lies _ rfl _ _ _ rfl (w.heap.size + 1 + 1) 9 ti _ 1 16 Tryd.underlying76 HI.out ht0 ht1 ht2 rfl (by omega) (.slice (some ⟨g1, 0, none⟩) 1 1) (1) (([N1]).map Value.string) rfl (by exact row_later G1'.out.2.2.1 (bnew _ _)) ⟨u2w.heap.size, 0, none⟩ 1 1 [.string ST] rfl rfl (by have := World.news_of_block (cs := #[.string ST]) (t := 9) (fr := (0, 0)) (heap_alloc_new u2w (.cells #[.string ST] 9)); simpa using this) (by simp [Value.oneCell']) (by omega) (by simp [maxLen]) (by omega) (by have := G1'.out.size; simp; omega) (u2w.heap.size + 1) (by simp) ?_; intro g2 d2 v2 hown hgrow hat hlt5; have G2 : Hid (GE w v2 true true false false true 1 te me nu (.slice a xs.length cap) (.slice (some ⟨g2, 0, none⟩) (1 + 1) d2) (1 + 1) ([N1] ++ [ST])) := GE.grow (G1'.out.later (bnew _ _)) (qs := [ST]) hown rfl hgrow; have s0 : v2.cell? ⟨w.heap.size, 0, none⟩ = some (.bool true) := G2.out.1.cell 0; have s1 : v2.cell? ⟨w.heap.size, 1, none⟩ = some (.bool true) := G2.out.1.cell 1; have s2 : v2.cell? ⟨w.heap.size, 2, none⟩ = some (.bool false) := G2.out.1.cell 2; have s3 : v2.cell? ⟨w.heap.size, 3, none⟩ = some (.bool false) := G2.out.1.cell 3; have r0 : v2.cell? ⟨w.heap.size + 1, 0, none⟩ = some (.int .i64 1) := G2.out.2.1.cell 0; have r1 : v2.cell? ⟨w.heap.size + 1, 1, none⟩ = some (.string te) := G2.out.2.1.cell 1; have r2 : v2.cell? ⟨w.heap.size + 1, 2, none⟩ = some (.string me) := G2.out.2.1.cell 2; have r3 : v2.cell? ⟨w.heap.size + 1, 3, none⟩ = some (.int .i64 nu) := G2.out.2.1.cell 3; have r4 : v2.cell? ⟨w.heap.size + 1, 4, none⟩ = some (.slice a xs.length cap) := G2.out.2.1.cell 4; clear hown hgrow hat hlt5)
  clear G1'
  go_wp2_with fail
  refine (HC.out _).mono ?_
  rintro e u3w ⟨rfl, hb2⟩
  have G2' : Hid (GE w u3w true true false false true 1 te me nu (.slice a xs.length cap) (.slice (some ⟨g2, 0, none⟩) (1 + 1) d2) (1 + 1) ([N1] ++ [ST])) := G2.out.later hb2
  clear hb2 G2 s0 s1 s2 s3 r0 r1 r2 r3 r4
  go_wp2_with (at_builtin; refine wpList_append_lies _ rfl _ _ _ rfl (w.heap.size + 1 + 1) 9 ti _ 1 16 Tryd.underlying76 HI.out ht0 ht1 ht2 rfl (by omega) (.slice (some ⟨g2, 0, none⟩) (1 + 1) d2) (1 + 1) (([N1] ++ [ST]).map Value.string) rfl (by exact row_later G2'.out.2.2.1 (bnew _ _)) ⟨u3w.heap.size, 0, none⟩ 1 1 [.string SC] rfl rfl (by have := World.news_of_block (cs := #[.string SC]) (t := 9) (fr := (0, 0)) (heap_alloc_new u3w (.cells #[.string SC] 9)); simpa using this) (by simp [Value.oneCell']) (by omega) (by simp [maxLen]) (by omega) (by have := G2'.out.size; simp; omega) (u3w.heap.size + 1) (by simp) ?_; intro g3 d3 v3 hown hgrow hat hlt5; have G3 : Hid (GE w v3 true true false false true 1 te me nu (.slice a xs.length cap) (.slice (some ⟨g3, 0, none⟩) (1 + 1 + 1) d3) (1 + 1 + 1) ([N1] ++ [ST] ++ [SC])) := GE.grow (G2'.out.later (bnew _ _)) (qs := [SC]) hown rfl hgrow; have s0 : v3.cell? ⟨w.heap.size, 0, none⟩ = some (.bool true) := G3.out.1.cell 0; have s1 : v3.cell? ⟨w.heap.size, 1, none⟩ = some (.bool true) := G3.out.1.cell 1; have s2 : v3.cell? ⟨w.heap.size, 2, none⟩ = some (.bool false) := G3.out.1.cell 2; have s3 : v3.cell? ⟨w.heap.size, 3, none⟩ = some (.bool false) := G3.out.1.cell 3; have r0 : v3.cell? ⟨w.heap.size + 1, 0, none⟩ = some (.int .i64 1) := G3.out.2.1.cell 0; have r1 : v3.cell? ⟨w.heap.size + 1, 1, none⟩ = some (.string te) := G3.out.2.1.cell 1; have r2 : v3.cell? ⟨w.heap.size + 1, 2, none⟩ = some (.string me) := G3.out.2.1.cell 2; have r3 : v3.cell? ⟨w.heap.size + 1, 3, none⟩ = some (.int .i64 nu) := G3.out.2.1.cell 3; have r4 : v3.cell? ⟨w.heap.size + 1, 4, none⟩ = some (.slice a xs.length cap) := G3.out.2.1.cell 4; clear hown hgrow hat hlt5)
  clear G2'
  go_wp2
  go_loopw [5, 7, 32] (fun out _ i wr => ∃ (j : Nat) (ps : List ByteArray) (g z cv : Nat), j ≤ xs.length ∧ i = .int .i64 j ∧ out = .slice (some ⟨g, 0, none⟩) z cv ∧ z ≤ 3 + 2 * j ∧ sumB ps ≤ 2000000 + j * 2000000 ∧ Hid (ps = [N1, ST, SC] ++ partsX (xs.take j)) ∧ Hid (GE w wr true true false false true 1 te me nu (.slice a xs.length cap) (.slice (some ⟨g, 0, none⟩) z cv) (z) (ps))) (fun _ _ i _ => xs.length - (intOf i).toNat)
  case atStart => exact ⟨0, [N1] ++ [ST] ++ [SC], g3, 1 + 1 + 1, d3, Nat.zero_le _, rfl, rfl, by omega, by simp [sumB]; omega, by show _ = _; simp [partsX], G3.out⟩
  case round =>
    obtain ⟨j, ps, g, z, cv, hj, rfl, rfl, hz, hsum, HPS, GL⟩ := hrel
    clear s0 s1 s2 s3 r0 r1 r2 r3 r4 G3
    have s0 : wr.cell? ⟨w.heap.size, 0, none⟩ = some (.bool true) := GL.out.1.cell 0; have s1 : wr.cell? ⟨w.heap.size, 1, none⟩ = some (.bool true) := GL.out.1.cell 1; have s2 : wr.cell? ⟨w.heap.size, 2, none⟩ = some (.bool false) := GL.out.1.cell 2; have s3 : wr.cell? ⟨w.heap.size, 3, none⟩ = some (.bool false) := GL.out.1.cell 3; have r0 : wr.cell? ⟨w.heap.size + 1, 0, none⟩ = some (.int .i64 1) := GL.out.2.1.cell 0; have r1 : wr.cell? ⟨w.heap.size + 1, 1, none⟩ = some (.string te) := GL.out.2.1.cell 1; have r2 : wr.cell? ⟨w.heap.size + 1, 2, none⟩ = some (.string me) := GL.out.2.1.cell 2; have r3 : wr.cell? ⟨w.heap.size + 1, 3, none⟩ = some (.int .i64 nu) := GL.out.2.1.cell 3; have r4 : wr.cell? ⟨w.heap.size + 1, 4, none⟩ = some (.slice a xs.length cap) := GL.out.2.1.cell 4
    by_cases hlt : j < xs.length
    · obtain ⟨b, o, a1, q1, rfl, hb, c0, c1, p1⟩ := (HF.out.later GL.out.2.2.2.1).at hlt
      have hll := HLAB.out j hlt
      have hbs := smpBulk_at xs j hlt
      have hbe : smpBulk xs[j] = xs[j].labs.length + labBulk xs[j].labs := rfl
      have HK : Hid (∀ W, Below wr.heap.size wr W → Calls Tryd.prog 41 #[.slice a1 xs[j].labs.length q1] W fun e w' => e = .returned (.string (keyB xs[j].labs)) ∧ Below W.heap.size W w') := fun W hW => keyOfR_any a1 q1 xs[j].labs W (p1.later hW) (fun i hi => by have := lab_in xs[j].labs i hi; omega) hll
      have HB8 : Hid (∀ W, Calls Tryd.prog 42 #[.int .i64 xs[j].bits] W fun e w' => e = .returned (.string (numS 8 xs[j].bits)) ∧ Below W.heap.size W w') := fun W => implU64r_any _ W
      have zk : (keyB xs[j].labs).size ≤ 1999000 := by rw [keyB, ByteArray.size_append, numS_size, tailB_size]; omega
      have z8 := numS_size 8 xs[j].bits
      have E2 : Hid (ps ++ [keyB xs[j].labs, numS 8 xs[j].bits] = [N1, ST, SC] ++ partsX (xs.take (j + 1))) := by show _ = _; rw [HPS.out, partsX_take xs j hlt, List.append_assoc]
      have hnb : ¬ b = wr.heap.size := by omega
      have hsz := GL.out.size
      have hgl := GL.out.lt g rfl
      clear p1 hbe hbs HPS
      generalize keyB xs[j].labs = SK at *
      generalize numS 8 xs[j].bits = S8 at *
      generalize xs[j].labs.length = ll at *
      generalize xs[j].bits = bi at *
      have HBX : Hid (Blk (wr.alloc (.cells #[.slice a1 ll q1, .int .i64 bi] 54)) wr.heap.size #[.slice a1 ll q1, .int .i64 bi] 54 ∧ Below wr.heap.size wr (wr.alloc (.cells #[.slice a1 ll q1, .int .i64 bi] 54)) ∧ GE w (wr.alloc (.cells #[.slice a1 ll q1, .int .i64 bi] 54)) true true false false true 1 te me nu (.slice (some ⟨b, o, none⟩) xs.length cap) (.slice (some ⟨g, 0, none⟩) z cv) (z) (ps)) := ⟨heap_alloc_new _ _, bnew _ _, GL.out.later (bnew _ _)⟩
      go_upto_region 9 with fail
      generalize wr.alloc (.cells #[.slice a1 ll q1, .int .i64 bi] 54) = W at *
      have x0 : W.cell? ⟨wr.heap.size, 0, none⟩ = some (.slice a1 ll q1) := HBX.out.1.cell 0
      have x1 : W.cell? ⟨wr.heap.size, 1, none⟩ = some (.int .i64 bi) := HBX.out.1.cell 1
      have hBX : wr.heap.size < W.heap.size := lt_of_block HBX.out.1
      have HKW : Hid (∀ W', Below W.heap.size W W' → Calls Tryd.prog 41 #[.slice a1 ll q1] W' fun e w' => e = .returned (.string SK) ∧ Below W'.heap.size W' w') := fun W' h => HK.out W' (bto HBX.out.2.1 h)
      have HGW : Hid (GE w W true true false false true 1 te me nu (.slice (some ⟨b, o, none⟩) xs.length cap) (.slice (some ⟨g, 0, none⟩) z cv) (z) (ps)) := HBX.out.2.2
      have hww := HGW.out.size
      clear GL HBX HK hnb hb c0 c1 s0 s1 s2 s3 r0 r1 r2 r3 r4 hsz
      generalize wr.heap.size = BX at *
      clear wr
      go_region_held3 (fun w' => w'.cell? ⟨BX, 0, none⟩ = some (.slice a1 ll q1) ∧ w'.cell? ⟨BX, 1, none⟩ = some (.int .i64 bi))
        (first
          | go_keep
          | exact ⟨hk50.trans x0, hk51.trans x1⟩
          | exact ⟨((hc2.alloc hc2.size _).cell hBX).trans x0, ((hc2.alloc hc2.size _).cell hBX).trans x1⟩
          | exact ⟨(hc2.cell hBX).trans x0, (hc2.cell hBX).trans x1⟩
          | exact ⟨(hc1.cell hBX).trans x0, (hc1.cell hBX).trans x1⟩)
        ((first
          | (go_at_call 41; refine (HKW.out _ (Below.refl _ W).drew).mono ?_; rintro e w1 ⟨rfl, hb1⟩; have hc1 : Below W.heap.size W w1 := (Below.refl _ W).drew.trans hb1)
          | (go_at_call 42; refine (HB8.out _).mono ?_; rintro e w2 ⟨rfl, hb2⟩; have hc2 : Below W.heap.size W w2 := hc1.trans (hb2.mono hc1.size))
          | (refine step_append_any _ (by rfl) _ _ _ (by rfl) (w.heap.size + 1 + 1) 9 ti _ 1 16 Tryd.underlying76 HI.out ht0 ht1 ht2 rfl (by omega) g z cv _ (by rfl) (by exact row_later (row_later HGW.out.2.2.1 hc2) (bnew _ _)) _ 2 2 [.string SK, .string S8] (by rfl) rfl (by exact Or.inr ⟨_, rfl, World.news_of_block (cs := #[.string SK, .string S8]) (heap_alloc_new _ _)⟩) (by simp [Value.oneCell']) (by simp [maxLen]; omega) (by omega) (by have := hc2.size; simp; omega) ?_; intro g5 cap5 w5 hown5 hB5 hk5 hg5 hat5 hlt5; have hk50 : w5.cell? ⟨BX, 0, none⟩ = W.cell? ⟨BX, 0, none⟩ := (World.cell?_of_block (hk5 BX (by have := hc2.size; simp; omega) (by omega))).trans ((hc2.alloc hc2.size _).cell hBX); have hk51 : w5.cell? ⟨BX, 1, none⟩ = W.cell? ⟨BX, 1, none⟩ := (World.cell?_of_block (hk5 BX (by have := hc2.size; simp; omega) (by omega))).trans ((hc2.alloc hc2.size _).cell hBX); have hG5 := GE.grow5 (HGW.out.later (bto hc2 (bnew _ _))) (qs := [SK, S8]) hown5 rfl hB5 hk5)))
      have hsm : sumB (ps ++ [SK, S8]) = sumB ps + (SK.size + S8.size) := by rw [sumB_append]; simp [sumB]
      have HG5 := hid hG5
      clear hown5 hB5 hk5 hat5 hk50 hk51 hG5
      generalize ps ++ [SK, S8] = ps5 at *
      go_wp2
      exact ⟨⟨j + 1, ps5, g5, z + 2, cap5, by omega, by go_num, rfl, by omega, by omega, E2.out, HG5.out⟩, by simp [intOf]; omega⟩
    · have E2 : Hid (catB ps = RX) := HX.out ps (by rw [HPS.out, List.take_of_length_le (by omega)])
      have hzl := GL.out.2.2.2.2
      have HJ : Hid (Calls Tryd.prog 44 #[.slice (some ⟨g, 0, none⟩) z cv] wr fun e w' => e = .returned (.string RX) ∧ Below wr.heap.size wr w') := by
        have h := GE.join GL.out (by omega) (by rw [HPS.out]; simp) (by omega)
        rw [E2.out] at h
        exact h
      have BW : Hid (Below w.heap.size w wr) := GL.out.2.2.2.1
      clear hzl
      go_wp2_with fail
      refine HJ.out.mono ?_
      rintro e w9 ⟨rfl, hb9⟩
      have B9 : Hid (Below w.heap.size w w9) := bto BW.out hb9
      clear hb9
      go_wp2
      go_ret
      exact ⟨rfl, B9.out⟩

set_option maxRecDepth 100000 in
set_option maxHeartbeats 4000000 in
theorem encode2_any (te me : ByteArray) (nu : Int) (a : Option Addr) (cap : Nat) (w : World) (_h1 : te.size ≤ 1048576) (_h2 : me.size ≤ 1048576) :
    Calls Tryd.prog 21 #[.agg #[.bool false, .bool false, .bool false, .bool true, .bool true], .agg #[.int .i64 2, .string te, .string me, .int .i64 nu, .slice a 0 cap]] w fun e w' => e = .returned (.string (rqX ⟨2, te, me, nu, []⟩)) ∧ Below w.heap.size w w' := by
  have HU : Hid (∀ W, Calls Tryd.prog 38 #[.int .i64 2] W fun e w' => e = .returned (.string (numS 1 2)) ∧ Below W.heap.size W w') := fun W => implU8r_any 2 W
  have z1 := numS_size 1 2
  have HN : Hid (∀ W, Calls Tryd.prog 42 #[.int .i64 nu] W fun e w' => e = .returned (.string (numS 8 nu)) ∧ Below W.heap.size W w') := fun W => implU64r_any nu W
  have zn := numS_size 8 nu
  have HX : Hid (catB [numS 1 2, numS 8 nu] = rqX ⟨2, te, me, nu, []⟩) := by show _ = _; rw [rqX2]; simp [catB]
  generalize numS 1 2 = N1 at *
  generalize numS 8 nu = SN at *
  generalize rqX ⟨2, te, me, nu, []⟩ = RX at *
  obtain ⟨ti, hti, ht0, ht1, ht2⟩ := info_strR
  have HI : Hid (Tryd.prog.info? 9 = some ti) := hti
  clear hti
  go_enter Tryd.func21, Tryd.ntmps21
  go_wp2_with fail
  refine (HU.out _).mono ?_
  rintro e w1 ⟨rfl, hb1⟩
  have G1 : Hid (GE w (w1.alloc (.cells #[.string N1] 9)) false false false true true 2 te me nu (.slice a 0 cap) (.slice (some ⟨w1.heap.size, 0, none⟩) 1 1) (1) ([N1])) := GE.made hb1
  clear hb1
  go_upto_region 2 with fail
  generalize w1.alloc (.cells #[.string N1] 9) = W1 at *
  generalize w1.heap.size = g1 at *
  clear w1
  have s0 : W1.cell? ⟨w.heap.size, 0, none⟩ = some (.bool false) := G1.out.1.cell 0; have s1 : W1.cell? ⟨w.heap.size, 1, none⟩ = some (.bool false) := G1.out.1.cell 1; have s2 : W1.cell? ⟨w.heap.size, 2, none⟩ = some (.bool false) := G1.out.1.cell 2; have s3 : W1.cell? ⟨w.heap.size, 3, none⟩ = some (.bool true) := G1.out.1.cell 3; have r0 : W1.cell? ⟨w.heap.size + 1, 0, none⟩ = some (.int .i64 2) := G1.out.2.1.cell 0; have r1 : W1.cell? ⟨w.heap.size + 1, 1, none⟩ = some (.string te) := G1.out.2.1.cell 1; have r2 : W1.cell? ⟨w.heap.size + 1, 2, none⟩ = some (.string me) := G1.out.2.1.cell 2; have r3 : W1.cell? ⟨w.heap.size + 1, 3, none⟩ = some (.int .i64 nu) := G1.out.2.1.cell 3; have r4 : W1.cell? ⟨w.heap.size + 1, 4, none⟩ = some (.slice a 0 cap) := G1.out.2.1.cell 4
  try go_wp2
  go_loopw [5, 7, 32] (fun out _ i wr => i = .int .i64 0 ∧ out = .slice (some ⟨g1, 0, none⟩) 1 1 ∧ Hid (GE w wr false false false true true 2 te me nu (.slice a 0 cap) (.slice (some ⟨g1, 0, none⟩) 1 1) (1) ([N1]))) (fun _ _ _ _ => 0)
  case atStart => exact ⟨rfl, rfl, G1.out⟩
  case round =>
    obtain ⟨rfl, rfl, GL⟩ := hrel
    clear s0 s1 s2 s3 r0 r1 r2 r3 r4
    have s0 : wr.cell? ⟨w.heap.size, 0, none⟩ = some (.bool false) := GL.out.1.cell 0; have s1 : wr.cell? ⟨w.heap.size, 1, none⟩ = some (.bool false) := GL.out.1.cell 1; have s2 : wr.cell? ⟨w.heap.size, 2, none⟩ = some (.bool false) := GL.out.1.cell 2; have s3 : wr.cell? ⟨w.heap.size, 3, none⟩ = some (.bool true) := GL.out.1.cell 3; have r0 : wr.cell? ⟨w.heap.size + 1, 0, none⟩ = some (.int .i64 2) := GL.out.2.1.cell 0; have r1 : wr.cell? ⟨w.heap.size + 1, 1, none⟩ = some (.string te) := GL.out.2.1.cell 1; have r2 : wr.cell? ⟨w.heap.size + 1, 2, none⟩ = some (.string me) := GL.out.2.1.cell 2; have r3 : wr.cell? ⟨w.heap.size + 1, 3, none⟩ = some (.int .i64 nu) := GL.out.2.1.cell 3; have r4 : wr.cell? ⟨w.heap.size + 1, 4, none⟩ = some (.slice a 0 cap) := GL.out.2.1.cell 4
    go_wp2_with fail
    refine (HN.out _).mono ?_
    rintro e u2w ⟨rfl, hb2⟩
    have GL' : Hid (GE w u2w false false false true true 2 te me nu (.slice a 0 cap) (.slice (some ⟨g1, 0, none⟩) 1 1) (1) ([N1])) := GL.out.later hb2
    clear hb2 GL s0 s1 s2 s3 r0 r1 r2 r3 r4
    go_wp2_with (at_builtin; refine wpList_append_lies _ rfl _ _ _ rfl (w.heap.size + 1 + 1) 9 ti _ 1 16 Tryd.underlying76 HI.out ht0 ht1 ht2 rfl (by omega) (.slice (some ⟨g1, 0, none⟩) 1 1) (1) (([N1]).map Value.string) rfl (by exact row_later GL'.out.2.2.1 (bnew _ _)) ⟨u2w.heap.size, 0, none⟩ 1 1 [.string SN] rfl rfl (by have := World.news_of_block (cs := #[.string SN]) (t := 9) (fr := (0, 0)) (heap_alloc_new u2w (.cells #[.string SN] 9)); simpa using this) (by simp [Value.oneCell']) (by omega) (by simp [maxLen]) (by omega) (by have := GL'.out.size; simp; omega) (u2w.heap.size + 1) (by simp) ?_; intro g2 d2 v2 hown hgrow hat hlt5; have G2 : Hid (GE w v2 false false false true true 2 te me nu (.slice a 0 cap) (.slice (some ⟨g2, 0, none⟩) (1 + 1) d2) (1 + 1) ([N1] ++ [SN])) := GE.grow (GL'.out.later (bnew _ _)) (qs := [SN]) hown rfl hgrow; have s0 : v2.cell? ⟨w.heap.size, 0, none⟩ = some (.bool false) := G2.out.1.cell 0; have s1 : v2.cell? ⟨w.heap.size, 1, none⟩ = some (.bool false) := G2.out.1.cell 1; have s2 : v2.cell? ⟨w.heap.size, 2, none⟩ = some (.bool false) := G2.out.1.cell 2; have s3 : v2.cell? ⟨w.heap.size, 3, none⟩ = some (.bool true) := G2.out.1.cell 3; have r0 : v2.cell? ⟨w.heap.size + 1, 0, none⟩ = some (.int .i64 2) := G2.out.2.1.cell 0; have r1 : v2.cell? ⟨w.heap.size + 1, 1, none⟩ = some (.string te) := G2.out.2.1.cell 1; have r2 : v2.cell? ⟨w.heap.size + 1, 2, none⟩ = some (.string me) := G2.out.2.1.cell 2; have r3 : v2.cell? ⟨w.heap.size + 1, 3, none⟩ = some (.int .i64 nu) := G2.out.2.1.cell 3; have r4 : v2.cell? ⟨w.heap.size + 1, 4, none⟩ = some (.slice a 0 cap) := G2.out.2.1.cell 4; clear hown hgrow hat hlt5)
    clear GL'
    have HJ : Hid (Calls Tryd.prog 44 #[.slice (some ⟨g2, 0, none⟩) (1 + 1) d2] v2 fun e w' => e = .returned (.string RX) ∧ Below v2.heap.size v2 w') := by
      have h := GE.join G2.out (by simp) (by simp) (by simp [sumB]; omega)
      simp only [List.cons_append, List.nil_append] at h
      rw [HX.out] at h
      exact h
    have BW : Hid (Below w.heap.size w v2) := G2.out.2.2.2.1
    go_wp2_with fail
    refine HJ.out.mono ?_
    rintro e w9 ⟨rfl, hb9⟩
    have B9 : Hid (Below w.heap.size w w9) := bto BW.out hb9
    clear hb9
    go_wp2
    go_ret
    exact ⟨rfl, B9.out⟩

set_option maxRecDepth 100000 in
set_option maxHeartbeats 4000000 in
theorem encode3_any (te me : ByteArray) (nu : Int) (a : Option Addr) (cap : Nat) (w : World) (h1 : te.size ≤ 1048576) (h2 : me.size ≤ 1048576) :
    Calls Tryd.prog 21 #[.agg #[.bool true, .bool false, .bool true, .bool true, .bool true], .agg #[.int .i64 3, .string te, .string me, .int .i64 nu, .slice a 0 cap]] w fun e w' => e = .returned (.string (rqX ⟨3, te, me, nu, []⟩)) ∧ Below w.heap.size w w' := by
  have HU : Hid (∀ W, Calls Tryd.prog 38 #[.int .i64 3] W fun e w' => e = .returned (.string (numS 1 3)) ∧ Below W.heap.size W w') := fun W => implU8r_any 3 W
  have z1 := numS_size 1 3
  have HT : Hid (∀ W, Calls Tryd.prog 39 #[.string te] W fun e w' => e = .returned (.string (s8B te)) ∧ Below W.heap.size W w') := fun W => implS8_any te W (by omega)
  have zt := s8B_size te
  have HM : Hid (∀ W, Calls Tryd.prog 43 #[.string me] W fun e w' => e = .returned (.string (s16B me)) ∧ Below W.heap.size W w') := fun W => implS16_any me W (by omega)
  have zm := s16B_size me
  have HN : Hid (∀ W, Calls Tryd.prog 42 #[.int .i64 nu] W fun e w' => e = .returned (.string (numS 8 nu)) ∧ Below W.heap.size W w') := fun W => implU64r_any nu W
  have zn := numS_size 8 nu
  have HX : Hid (catB [numS 1 3, s8B te, s16B me, numS 8 nu] = rqX ⟨3, te, me, nu, []⟩) := by show _ = _; rw [rqX3]; simp [catB, ByteArray.append_assoc]
  generalize numS 1 3 = N1 at *
  generalize s8B te = ST at *
  generalize s16B me = SM at *
  generalize numS 8 nu = SN at *
  generalize rqX ⟨3, te, me, nu, []⟩ = RX at *
  obtain ⟨ti, hti, ht0, ht1, ht2⟩ := info_strR
  have HI : Hid (Tryd.prog.info? 9 = some ti) := hti
  clear hti
  go_enter Tryd.func21, Tryd.ntmps21
  go_wp2_with fail
  refine (HU.out _).mono ?_
  rintro e w1 ⟨rfl, hb1⟩
  have G1 : Hid (GE w (w1.alloc (.cells #[.string N1] 9)) true false true true true 3 te me nu (.slice a 0 cap) (.slice (some ⟨w1.heap.size, 0, none⟩) 1 1) (1) ([N1])) := GE.made hb1
  clear hb1
  go_upto_region 2 with fail
  generalize w1.alloc (.cells #[.string N1] 9) = W1 at *
  generalize w1.heap.size = g1 at *
  clear w1
  have s0 : W1.cell? ⟨w.heap.size, 0, none⟩ = some (.bool true) := G1.out.1.cell 0; have s1 : W1.cell? ⟨w.heap.size, 1, none⟩ = some (.bool false) := G1.out.1.cell 1; have s2 : W1.cell? ⟨w.heap.size, 2, none⟩ = some (.bool true) := G1.out.1.cell 2; have s3 : W1.cell? ⟨w.heap.size, 3, none⟩ = some (.bool true) := G1.out.1.cell 3; have r0 : W1.cell? ⟨w.heap.size + 1, 0, none⟩ = some (.int .i64 3) := G1.out.2.1.cell 0; have r1 : W1.cell? ⟨w.heap.size + 1, 1, none⟩ = some (.string te) := G1.out.2.1.cell 1; have r2 : W1.cell? ⟨w.heap.size + 1, 2, none⟩ = some (.string me) := G1.out.2.1.cell 2; have r3 : W1.cell? ⟨w.heap.size + 1, 3, none⟩ = some (.int .i64 nu) := G1.out.2.1.cell 3; have r4 : W1.cell? ⟨w.heap.size + 1, 4, none⟩ = some (.slice a 0 cap) := G1.out.2.1.cell 4
  go_wp2_with fail
  refine (HT.out _).mono ?_
  rintro e u2w ⟨rfl, hb2⟩
  have G1' : Hid (GE w u2w true false true true true 3 te me nu (.slice a 0 cap) (.slice (some ⟨g1, 0, none⟩) 1 1) (1) ([N1])) := G1.out.later hb2
  clear hb2 G1 s0 s1 s2 s3 r0 r1 r2 r3 r4
  go_wp2_with (at_builtin; refine wpList_append_lies _ rfl _ _ _ rfl (w.heap.size + 1 + 1) 9 ti _ 1 16 Tryd.underlying76 HI.out ht0 ht1 ht2 rfl (by omega) (.slice (some ⟨g1, 0, none⟩) 1 1) (1) (([N1]).map Value.string) rfl (by exact row_later G1'.out.2.2.1 (bnew _ _)) ⟨u2w.heap.size, 0, none⟩ 1 1 [.string ST] rfl rfl (by have := World.news_of_block (cs := #[.string ST]) (t := 9) (fr := (0, 0)) (heap_alloc_new u2w (.cells #[.string ST] 9)); simpa using this) (by simp [Value.oneCell']) (by omega) (by simp [maxLen]) (by omega) (by have := G1'.out.size; simp; omega) (u2w.heap.size + 1) (by simp) ?_; intro g2 d2 v2 hown hgrow hat hlt5; have G2 : Hid (GE w v2 true false true true true 3 te me nu (.slice a 0 cap) (.slice (some ⟨g2, 0, none⟩) (1 + 1) d2) (1 + 1) ([N1] ++ [ST])) := GE.grow (G1'.out.later (bnew _ _)) (qs := [ST]) hown rfl hgrow; have s0 : v2.cell? ⟨w.heap.size, 0, none⟩ = some (.bool true) := G2.out.1.cell 0; have s1 : v2.cell? ⟨w.heap.size, 1, none⟩ = some (.bool false) := G2.out.1.cell 1; have s2 : v2.cell? ⟨w.heap.size, 2, none⟩ = some (.bool true) := G2.out.1.cell 2; have s3 : v2.cell? ⟨w.heap.size, 3, none⟩ = some (.bool true) := G2.out.1.cell 3; have r0 : v2.cell? ⟨w.heap.size + 1, 0, none⟩ = some (.int .i64 3) := G2.out.2.1.cell 0; have r1 : v2.cell? ⟨w.heap.size + 1, 1, none⟩ = some (.string te) := G2.out.2.1.cell 1; have r2 : v2.cell? ⟨w.heap.size + 1, 2, none⟩ = some (.string me) := G2.out.2.1.cell 2; have r3 : v2.cell? ⟨w.heap.size + 1, 3, none⟩ = some (.int .i64 nu) := G2.out.2.1.cell 3; have r4 : v2.cell? ⟨w.heap.size + 1, 4, none⟩ = some (.slice a 0 cap) := G2.out.2.1.cell 4; clear hown hgrow hat hlt5)
  clear G1'
  try go_wp2
  go_loopw [5, 7, 32] (fun out _ i wr => i = .int .i64 0 ∧ out = .slice (some ⟨g2, 0, none⟩) (1 + 1) d2 ∧ Hid (GE w wr true false true true true 3 te me nu (.slice a 0 cap) (.slice (some ⟨g2, 0, none⟩) (1 + 1) d2) (1 + 1) ([N1] ++ [ST]))) (fun _ _ _ _ => 0)
  case atStart => exact ⟨rfl, rfl, G2.out⟩
  case round =>
    obtain ⟨rfl, rfl, GL⟩ := hrel
    clear s0 s1 s2 s3 r0 r1 r2 r3 r4
    have s0 : wr.cell? ⟨w.heap.size, 0, none⟩ = some (.bool true) := GL.out.1.cell 0; have s1 : wr.cell? ⟨w.heap.size, 1, none⟩ = some (.bool false) := GL.out.1.cell 1; have s2 : wr.cell? ⟨w.heap.size, 2, none⟩ = some (.bool true) := GL.out.1.cell 2; have s3 : wr.cell? ⟨w.heap.size, 3, none⟩ = some (.bool true) := GL.out.1.cell 3; have r0 : wr.cell? ⟨w.heap.size + 1, 0, none⟩ = some (.int .i64 3) := GL.out.2.1.cell 0; have r1 : wr.cell? ⟨w.heap.size + 1, 1, none⟩ = some (.string te) := GL.out.2.1.cell 1; have r2 : wr.cell? ⟨w.heap.size + 1, 2, none⟩ = some (.string me) := GL.out.2.1.cell 2; have r3 : wr.cell? ⟨w.heap.size + 1, 3, none⟩ = some (.int .i64 nu) := GL.out.2.1.cell 3; have r4 : wr.cell? ⟨w.heap.size + 1, 4, none⟩ = some (.slice a 0 cap) := GL.out.2.1.cell 4
    go_wp2_with fail
    refine (HM.out _).mono ?_
    rintro e u3w ⟨rfl, hb2⟩
    have GL' : Hid (GE w u3w true false true true true 3 te me nu (.slice a 0 cap) (.slice (some ⟨g2, 0, none⟩) (1 + 1) d2) (1 + 1) ([N1] ++ [ST])) := GL.out.later hb2
    clear hb2 GL s0 s1 s2 s3 r0 r1 r2 r3 r4
    go_wp2_with (at_builtin; refine wpList_append_lies _ rfl _ _ _ rfl (w.heap.size + 1 + 1) 9 ti _ 1 16 Tryd.underlying76 HI.out ht0 ht1 ht2 rfl (by omega) (.slice (some ⟨g2, 0, none⟩) (1 + 1) d2) (1 + 1) (([N1] ++ [ST]).map Value.string) rfl (by exact row_later GL'.out.2.2.1 (bnew _ _)) ⟨u3w.heap.size, 0, none⟩ 1 1 [.string SM] rfl rfl (by have := World.news_of_block (cs := #[.string SM]) (t := 9) (fr := (0, 0)) (heap_alloc_new u3w (.cells #[.string SM] 9)); simpa using this) (by simp [Value.oneCell']) (by omega) (by simp [maxLen]) (by omega) (by have := GL'.out.size; simp; omega) (u3w.heap.size + 1) (by simp) ?_; intro g3 d3 v3 hown hgrow hat hlt5; have G3 : Hid (GE w v3 true false true true true 3 te me nu (.slice a 0 cap) (.slice (some ⟨g3, 0, none⟩) (1 + 1 + 1) d3) (1 + 1 + 1) ([N1] ++ [ST] ++ [SM])) := GE.grow (GL'.out.later (bnew _ _)) (qs := [SM]) hown rfl hgrow; have s0 : v3.cell? ⟨w.heap.size, 0, none⟩ = some (.bool true) := G3.out.1.cell 0; have s1 : v3.cell? ⟨w.heap.size, 1, none⟩ = some (.bool false) := G3.out.1.cell 1; have s2 : v3.cell? ⟨w.heap.size, 2, none⟩ = some (.bool true) := G3.out.1.cell 2; have s3 : v3.cell? ⟨w.heap.size, 3, none⟩ = some (.bool true) := G3.out.1.cell 3; have r0 : v3.cell? ⟨w.heap.size + 1, 0, none⟩ = some (.int .i64 3) := G3.out.2.1.cell 0; have r1 : v3.cell? ⟨w.heap.size + 1, 1, none⟩ = some (.string te) := G3.out.2.1.cell 1; have r2 : v3.cell? ⟨w.heap.size + 1, 2, none⟩ = some (.string me) := G3.out.2.1.cell 2; have r3 : v3.cell? ⟨w.heap.size + 1, 3, none⟩ = some (.int .i64 nu) := G3.out.2.1.cell 3; have r4 : v3.cell? ⟨w.heap.size + 1, 4, none⟩ = some (.slice a 0 cap) := G3.out.2.1.cell 4; clear hown hgrow hat hlt5)
    clear GL'
    go_wp2_with fail
    refine (HN.out _).mono ?_
    rintro e u4w ⟨rfl, hb2⟩
    have G3' : Hid (GE w u4w true false true true true 3 te me nu (.slice a 0 cap) (.slice (some ⟨g3, 0, none⟩) (1 + 1 + 1) d3) (1 + 1 + 1) ([N1] ++ [ST] ++ [SM])) := G3.out.later hb2
    clear hb2 G3 s0 s1 s2 s3 r0 r1 r2 r3 r4
    go_wp2_with (at_builtin; refine wpList_append_lies _ rfl _ _ _ rfl (w.heap.size + 1 + 1) 9 ti _ 1 16 Tryd.underlying76 HI.out ht0 ht1 ht2 rfl (by omega) (.slice (some ⟨g3, 0, none⟩) (1 + 1 + 1) d3) (1 + 1 + 1) (([N1] ++ [ST] ++ [SM]).map Value.string) rfl (by exact row_later G3'.out.2.2.1 (bnew _ _)) ⟨u4w.heap.size, 0, none⟩ 1 1 [.string SN] rfl rfl (by have := World.news_of_block (cs := #[.string SN]) (t := 9) (fr := (0, 0)) (heap_alloc_new u4w (.cells #[.string SN] 9)); simpa using this) (by simp [Value.oneCell']) (by omega) (by simp [maxLen]) (by omega) (by have := G3'.out.size; simp; omega) (u4w.heap.size + 1) (by simp) ?_; intro g4 d4 v4 hown hgrow hat hlt5; have G4 : Hid (GE w v4 true false true true true 3 te me nu (.slice a 0 cap) (.slice (some ⟨g4, 0, none⟩) (1 + 1 + 1 + 1) d4) (1 + 1 + 1 + 1) ([N1] ++ [ST] ++ [SM] ++ [SN])) := GE.grow (G3'.out.later (bnew _ _)) (qs := [SN]) hown rfl hgrow; have s0 : v4.cell? ⟨w.heap.size, 0, none⟩ = some (.bool true) := G4.out.1.cell 0; have s1 : v4.cell? ⟨w.heap.size, 1, none⟩ = some (.bool false) := G4.out.1.cell 1; have s2 : v4.cell? ⟨w.heap.size, 2, none⟩ = some (.bool true) := G4.out.1.cell 2; have s3 : v4.cell? ⟨w.heap.size, 3, none⟩ = some (.bool true) := G4.out.1.cell 3; have r0 : v4.cell? ⟨w.heap.size + 1, 0, none⟩ = some (.int .i64 3) := G4.out.2.1.cell 0; have r1 : v4.cell? ⟨w.heap.size + 1, 1, none⟩ = some (.string te) := G4.out.2.1.cell 1; have r2 : v4.cell? ⟨w.heap.size + 1, 2, none⟩ = some (.string me) := G4.out.2.1.cell 2; have r3 : v4.cell? ⟨w.heap.size + 1, 3, none⟩ = some (.int .i64 nu) := G4.out.2.1.cell 3; have r4 : v4.cell? ⟨w.heap.size + 1, 4, none⟩ = some (.slice a 0 cap) := G4.out.2.1.cell 4; clear hown hgrow hat hlt5)
    clear G3'
    have HJ : Hid (Calls Tryd.prog 44 #[.slice (some ⟨g4, 0, none⟩) (1 + 1 + 1 + 1) d4] v4 fun e w' => e = .returned (.string RX) ∧ Below v4.heap.size v4 w') := by
      have h := GE.join G4.out (by simp) (by simp) (by simp [sumB]; omega)
      simp only [List.cons_append, List.nil_append] at h
      rw [HX.out] at h
      exact h
    have BW : Hid (Below w.heap.size w v4) := G4.out.2.2.2.1
    go_wp2_with fail
    refine HJ.out.mono ?_
    rintro e w9 ⟨rfl, hb9⟩
    have B9 : Hid (Below w.heap.size w w9) := bto BW.out hb9
    clear hb9
    go_wp2
    go_ret
    exact ⟨rfl, B9.out⟩

set_option maxRecDepth 100000 in
set_option maxHeartbeats 4000000 in
theorem encode4_any (te me : ByteArray) (nu : Int) (a : Option Addr) (cap : Nat) (w : World) (_h1 : te.size ≤ 1048576) (_h2 : me.size ≤ 1048576) :
    Calls Tryd.prog 21 #[.agg #[.bool false, .bool false, .bool false, .bool false, .bool true], .agg #[.int .i64 4, .string te, .string me, .int .i64 nu, .slice a 0 cap]] w fun e w' => e = .returned (.string (rqX ⟨4, te, me, nu, []⟩)) ∧ Below w.heap.size w w' := by
  have HU : Hid (∀ W, Calls Tryd.prog 38 #[.int .i64 4] W fun e w' => e = .returned (.string (numS 1 4)) ∧ Below W.heap.size W w') := fun W => implU8r_any 4 W
  have z1 := numS_size 1 4
  have HX : Hid (catB [numS 1 4] = rqX ⟨4, te, me, nu, []⟩) := by show _ = _; rw [rqX4]; simp [catB]
  generalize numS 1 4 = N1 at *
  generalize rqX ⟨4, te, me, nu, []⟩ = RX at *
  obtain ⟨ti, hti, ht0, ht1, ht2⟩ := info_strR
  have HI : Hid (Tryd.prog.info? 9 = some ti) := hti
  clear hti
  go_enter Tryd.func21, Tryd.ntmps21
  go_wp2_with fail
  refine (HU.out _).mono ?_
  rintro e w1 ⟨rfl, hb1⟩
  have G1 : Hid (GE w (w1.alloc (.cells #[.string N1] 9)) false false false false true 4 te me nu (.slice a 0 cap) (.slice (some ⟨w1.heap.size, 0, none⟩) 1 1) (1) ([N1])) := GE.made hb1
  clear hb1
  go_upto_region 2 with fail
  generalize w1.alloc (.cells #[.string N1] 9) = W1 at *
  generalize w1.heap.size = g1 at *
  clear w1
  have s0 : W1.cell? ⟨w.heap.size, 0, none⟩ = some (.bool false) := G1.out.1.cell 0; have s1 : W1.cell? ⟨w.heap.size, 1, none⟩ = some (.bool false) := G1.out.1.cell 1; have s2 : W1.cell? ⟨w.heap.size, 2, none⟩ = some (.bool false) := G1.out.1.cell 2; have s3 : W1.cell? ⟨w.heap.size, 3, none⟩ = some (.bool false) := G1.out.1.cell 3; have r0 : W1.cell? ⟨w.heap.size + 1, 0, none⟩ = some (.int .i64 4) := G1.out.2.1.cell 0; have r1 : W1.cell? ⟨w.heap.size + 1, 1, none⟩ = some (.string te) := G1.out.2.1.cell 1; have r2 : W1.cell? ⟨w.heap.size + 1, 2, none⟩ = some (.string me) := G1.out.2.1.cell 2; have r3 : W1.cell? ⟨w.heap.size + 1, 3, none⟩ = some (.int .i64 nu) := G1.out.2.1.cell 3; have r4 : W1.cell? ⟨w.heap.size + 1, 4, none⟩ = some (.slice a 0 cap) := G1.out.2.1.cell 4
  try go_wp2
  go_loopw [5, 7, 32] (fun out _ i wr => i = .int .i64 0 ∧ out = .slice (some ⟨g1, 0, none⟩) 1 1 ∧ Hid (GE w wr false false false false true 4 te me nu (.slice a 0 cap) (.slice (some ⟨g1, 0, none⟩) 1 1) (1) ([N1]))) (fun _ _ _ _ => 0)
  case atStart => exact ⟨rfl, rfl, G1.out⟩
  case round =>
    obtain ⟨rfl, rfl, GL⟩ := hrel
    clear s0 s1 s2 s3 r0 r1 r2 r3 r4
    have s0 : wr.cell? ⟨w.heap.size, 0, none⟩ = some (.bool false) := GL.out.1.cell 0; have s1 : wr.cell? ⟨w.heap.size, 1, none⟩ = some (.bool false) := GL.out.1.cell 1; have s2 : wr.cell? ⟨w.heap.size, 2, none⟩ = some (.bool false) := GL.out.1.cell 2; have s3 : wr.cell? ⟨w.heap.size, 3, none⟩ = some (.bool false) := GL.out.1.cell 3; have r0 : wr.cell? ⟨w.heap.size + 1, 0, none⟩ = some (.int .i64 4) := GL.out.2.1.cell 0; have r1 : wr.cell? ⟨w.heap.size + 1, 1, none⟩ = some (.string te) := GL.out.2.1.cell 1; have r2 : wr.cell? ⟨w.heap.size + 1, 2, none⟩ = some (.string me) := GL.out.2.1.cell 2; have r3 : wr.cell? ⟨w.heap.size + 1, 3, none⟩ = some (.int .i64 nu) := GL.out.2.1.cell 3; have r4 : wr.cell? ⟨w.heap.size + 1, 4, none⟩ = some (.slice a 0 cap) := GL.out.2.1.cell 4
    have HJ : Hid (Calls Tryd.prog 44 #[.slice (some ⟨g1, 0, none⟩) 1 1] wr fun e w' => e = .returned (.string RX) ∧ Below wr.heap.size wr w') := by
      have h := GE.join GL.out (by simp) (by simp) (by simp [sumB]; omega)
      rw [HX.out] at h
      exact h
    have BW : Hid (Below w.heap.size w wr) := GL.out.2.2.2.1
    go_wp2_with fail
    refine HJ.out.mono ?_
    rintro e w9 ⟨rfl, hb9⟩
    have B9 : Hid (Below w.heap.size w w9) := bto BW.out hb9
    clear hb9
    go_wp2
    go_ret
    exact ⟨rfl, B9.out⟩

set_option maxRecDepth 100000 in
set_option maxHeartbeats 4000000 in
theorem encode5_any (te me : ByteArray) (nu : Int) (a : Option Addr) (cap : Nat) (w : World) (h1 : te.size ≤ 1048576) (h2 : me.size ≤ 1048576) :
    Calls Tryd.prog 21 #[.agg #[.bool true, .bool false, .bool true, .bool false, .bool false], .agg #[.int .i64 5, .string te, .string me, .int .i64 nu, .slice a 0 cap]] w fun e w' => e = .returned (.string (rqX ⟨5, te, me, nu, []⟩)) ∧ Below w.heap.size w w' := by
  have HU : Hid (∀ W, Calls Tryd.prog 38 #[.int .i64 5] W fun e w' => e = .returned (.string (numS 1 5)) ∧ Below W.heap.size W w') := fun W => implU8r_any 5 W
  have z1 := numS_size 1 5
  have HT : Hid (∀ W, Calls Tryd.prog 39 #[.string te] W fun e w' => e = .returned (.string (s8B te)) ∧ Below W.heap.size W w') := fun W => implS8_any te W (by omega)
  have zt := s8B_size te
  have HM : Hid (∀ W, Calls Tryd.prog 43 #[.string me] W fun e w' => e = .returned (.string (s16B me)) ∧ Below W.heap.size W w') := fun W => implS16_any me W (by omega)
  have zm := s16B_size me
  have HX : Hid (catB [numS 1 5, s8B te, s16B me] = rqX ⟨5, te, me, nu, []⟩) := by show _ = _; rw [rqX5]; simp [catB, ByteArray.append_assoc]
  generalize numS 1 5 = N1 at *
  generalize s8B te = ST at *
  generalize s16B me = SM at *
  generalize rqX ⟨5, te, me, nu, []⟩ = RX at *
  obtain ⟨ti, hti, ht0, ht1, ht2⟩ := info_strR
  have HI : Hid (Tryd.prog.info? 9 = some ti) := hti
  clear hti
  go_enter Tryd.func21, Tryd.ntmps21
  go_wp2_with fail
  refine (HU.out _).mono ?_
  rintro e w1 ⟨rfl, hb1⟩
  have G1 : Hid (GE w (w1.alloc (.cells #[.string N1] 9)) true false true false false 5 te me nu (.slice a 0 cap) (.slice (some ⟨w1.heap.size, 0, none⟩) 1 1) (1) ([N1])) := GE.made hb1
  clear hb1
  go_upto_region 2 with fail
  generalize w1.alloc (.cells #[.string N1] 9) = W1 at *
  generalize w1.heap.size = g1 at *
  clear w1
  have s0 : W1.cell? ⟨w.heap.size, 0, none⟩ = some (.bool true) := G1.out.1.cell 0; have s1 : W1.cell? ⟨w.heap.size, 1, none⟩ = some (.bool false) := G1.out.1.cell 1; have s2 : W1.cell? ⟨w.heap.size, 2, none⟩ = some (.bool true) := G1.out.1.cell 2; have s3 : W1.cell? ⟨w.heap.size, 3, none⟩ = some (.bool false) := G1.out.1.cell 3; have r0 : W1.cell? ⟨w.heap.size + 1, 0, none⟩ = some (.int .i64 5) := G1.out.2.1.cell 0; have r1 : W1.cell? ⟨w.heap.size + 1, 1, none⟩ = some (.string te) := G1.out.2.1.cell 1; have r2 : W1.cell? ⟨w.heap.size + 1, 2, none⟩ = some (.string me) := G1.out.2.1.cell 2; have r3 : W1.cell? ⟨w.heap.size + 1, 3, none⟩ = some (.int .i64 nu) := G1.out.2.1.cell 3; have r4 : W1.cell? ⟨w.heap.size + 1, 4, none⟩ = some (.slice a 0 cap) := G1.out.2.1.cell 4
  go_wp2_with fail
  refine (HT.out _).mono ?_
  rintro e u2w ⟨rfl, hb2⟩
  have G1' : Hid (GE w u2w true false true false false 5 te me nu (.slice a 0 cap) (.slice (some ⟨g1, 0, none⟩) 1 1) (1) ([N1])) := G1.out.later hb2
  clear hb2 G1 s0 s1 s2 s3 r0 r1 r2 r3 r4
  go_wp2_with (at_builtin; refine wpList_append_lies _ rfl _ _ _ rfl (w.heap.size + 1 + 1) 9 ti _ 1 16 Tryd.underlying76 HI.out ht0 ht1 ht2 rfl (by omega) (.slice (some ⟨g1, 0, none⟩) 1 1) (1) (([N1]).map Value.string) rfl (by exact row_later G1'.out.2.2.1 (bnew _ _)) ⟨u2w.heap.size, 0, none⟩ 1 1 [.string ST] rfl rfl (by have := World.news_of_block (cs := #[.string ST]) (t := 9) (fr := (0, 0)) (heap_alloc_new u2w (.cells #[.string ST] 9)); simpa using this) (by simp [Value.oneCell']) (by omega) (by simp [maxLen]) (by omega) (by have := G1'.out.size; simp; omega) (u2w.heap.size + 1) (by simp) ?_; intro g2 d2 v2 hown hgrow hat hlt5; have G2 : Hid (GE w v2 true false true false false 5 te me nu (.slice a 0 cap) (.slice (some ⟨g2, 0, none⟩) (1 + 1) d2) (1 + 1) ([N1] ++ [ST])) := GE.grow (G1'.out.later (bnew _ _)) (qs := [ST]) hown rfl hgrow; have s0 : v2.cell? ⟨w.heap.size, 0, none⟩ = some (.bool true) := G2.out.1.cell 0; have s1 : v2.cell? ⟨w.heap.size, 1, none⟩ = some (.bool false) := G2.out.1.cell 1; have s2 : v2.cell? ⟨w.heap.size, 2, none⟩ = some (.bool true) := G2.out.1.cell 2; have s3 : v2.cell? ⟨w.heap.size, 3, none⟩ = some (.bool false) := G2.out.1.cell 3; have r0 : v2.cell? ⟨w.heap.size + 1, 0, none⟩ = some (.int .i64 5) := G2.out.2.1.cell 0; have r1 : v2.cell? ⟨w.heap.size + 1, 1, none⟩ = some (.string te) := G2.out.2.1.cell 1; have r2 : v2.cell? ⟨w.heap.size + 1, 2, none⟩ = some (.string me) := G2.out.2.1.cell 2; have r3 : v2.cell? ⟨w.heap.size + 1, 3, none⟩ = some (.int .i64 nu) := G2.out.2.1.cell 3; have r4 : v2.cell? ⟨w.heap.size + 1, 4, none⟩ = some (.slice a 0 cap) := G2.out.2.1.cell 4; clear hown hgrow hat hlt5)
  clear G1'
  try go_wp2
  go_loopw [5, 7, 32] (fun out _ i wr => i = .int .i64 0 ∧ out = .slice (some ⟨g2, 0, none⟩) (1 + 1) d2 ∧ Hid (GE w wr true false true false false 5 te me nu (.slice a 0 cap) (.slice (some ⟨g2, 0, none⟩) (1 + 1) d2) (1 + 1) ([N1] ++ [ST]))) (fun _ _ _ _ => 0)
  case atStart => exact ⟨rfl, rfl, G2.out⟩
  case round =>
    obtain ⟨rfl, rfl, GL⟩ := hrel
    clear s0 s1 s2 s3 r0 r1 r2 r3 r4
    have s0 : wr.cell? ⟨w.heap.size, 0, none⟩ = some (.bool true) := GL.out.1.cell 0; have s1 : wr.cell? ⟨w.heap.size, 1, none⟩ = some (.bool false) := GL.out.1.cell 1; have s2 : wr.cell? ⟨w.heap.size, 2, none⟩ = some (.bool true) := GL.out.1.cell 2; have s3 : wr.cell? ⟨w.heap.size, 3, none⟩ = some (.bool false) := GL.out.1.cell 3; have r0 : wr.cell? ⟨w.heap.size + 1, 0, none⟩ = some (.int .i64 5) := GL.out.2.1.cell 0; have r1 : wr.cell? ⟨w.heap.size + 1, 1, none⟩ = some (.string te) := GL.out.2.1.cell 1; have r2 : wr.cell? ⟨w.heap.size + 1, 2, none⟩ = some (.string me) := GL.out.2.1.cell 2; have r3 : wr.cell? ⟨w.heap.size + 1, 3, none⟩ = some (.int .i64 nu) := GL.out.2.1.cell 3; have r4 : wr.cell? ⟨w.heap.size + 1, 4, none⟩ = some (.slice a 0 cap) := GL.out.2.1.cell 4
    go_wp2_with fail
    refine (HM.out _).mono ?_
    rintro e u3w ⟨rfl, hb2⟩
    have GL' : Hid (GE w u3w true false true false false 5 te me nu (.slice a 0 cap) (.slice (some ⟨g2, 0, none⟩) (1 + 1) d2) (1 + 1) ([N1] ++ [ST])) := GL.out.later hb2
    clear hb2 GL s0 s1 s2 s3 r0 r1 r2 r3 r4
    go_wp2_with (at_builtin; refine wpList_append_lies _ rfl _ _ _ rfl (w.heap.size + 1 + 1) 9 ti _ 1 16 Tryd.underlying76 HI.out ht0 ht1 ht2 rfl (by omega) (.slice (some ⟨g2, 0, none⟩) (1 + 1) d2) (1 + 1) (([N1] ++ [ST]).map Value.string) rfl (by exact row_later GL'.out.2.2.1 (bnew _ _)) ⟨u3w.heap.size, 0, none⟩ 1 1 [.string SM] rfl rfl (by have := World.news_of_block (cs := #[.string SM]) (t := 9) (fr := (0, 0)) (heap_alloc_new u3w (.cells #[.string SM] 9)); simpa using this) (by simp [Value.oneCell']) (by omega) (by simp [maxLen]) (by omega) (by have := GL'.out.size; simp; omega) (u3w.heap.size + 1) (by simp) ?_; intro g3 d3 v3 hown hgrow hat hlt5; have G3 : Hid (GE w v3 true false true false false 5 te me nu (.slice a 0 cap) (.slice (some ⟨g3, 0, none⟩) (1 + 1 + 1) d3) (1 + 1 + 1) ([N1] ++ [ST] ++ [SM])) := GE.grow (GL'.out.later (bnew _ _)) (qs := [SM]) hown rfl hgrow; have s0 : v3.cell? ⟨w.heap.size, 0, none⟩ = some (.bool true) := G3.out.1.cell 0; have s1 : v3.cell? ⟨w.heap.size, 1, none⟩ = some (.bool false) := G3.out.1.cell 1; have s2 : v3.cell? ⟨w.heap.size, 2, none⟩ = some (.bool true) := G3.out.1.cell 2; have s3 : v3.cell? ⟨w.heap.size, 3, none⟩ = some (.bool false) := G3.out.1.cell 3; have r0 : v3.cell? ⟨w.heap.size + 1, 0, none⟩ = some (.int .i64 5) := G3.out.2.1.cell 0; have r1 : v3.cell? ⟨w.heap.size + 1, 1, none⟩ = some (.string te) := G3.out.2.1.cell 1; have r2 : v3.cell? ⟨w.heap.size + 1, 2, none⟩ = some (.string me) := G3.out.2.1.cell 2; have r3 : v3.cell? ⟨w.heap.size + 1, 3, none⟩ = some (.int .i64 nu) := G3.out.2.1.cell 3; have r4 : v3.cell? ⟨w.heap.size + 1, 4, none⟩ = some (.slice a 0 cap) := G3.out.2.1.cell 4; clear hown hgrow hat hlt5)
    clear GL'
    have HJ : Hid (Calls Tryd.prog 44 #[.slice (some ⟨g3, 0, none⟩) (1 + 1 + 1) d3] v3 fun e w' => e = .returned (.string RX) ∧ Below v3.heap.size v3 w') := by
      have h := GE.join G3.out (by simp) (by simp) (by simp [sumB]; omega)
      simp only [List.cons_append, List.nil_append] at h
      rw [HX.out] at h
      exact h
    have BW : Hid (Below w.heap.size w v3) := G3.out.2.2.2.1
    go_wp2_with fail
    refine HJ.out.mono ?_
    rintro e w9 ⟨rfl, hb9⟩
    have B9 : Hid (Below w.heap.size w w9) := bto BW.out hb9
    clear hb9
    go_wp2
    go_ret
    exact ⟨rfl, B9.out⟩

set_option maxRecDepth 100000 in
set_option maxHeartbeats 4000000 in
theorem encode6_any (te me : ByteArray) (nu : Int) (a : Option Addr) (cap : Nat) (w : World) (h1 : te.size ≤ 1048576) (_h2 : me.size ≤ 1048576) :
    Calls Tryd.prog 21 #[.agg #[.bool true, .bool false, .bool false, .bool false, .bool false], .agg #[.int .i64 6, .string te, .string me, .int .i64 nu, .slice a 0 cap]] w fun e w' => e = .returned (.string (rqX ⟨6, te, me, nu, []⟩)) ∧ Below w.heap.size w w' := by
  have HU : Hid (∀ W, Calls Tryd.prog 38 #[.int .i64 6] W fun e w' => e = .returned (.string (numS 1 6)) ∧ Below W.heap.size W w') := fun W => implU8r_any 6 W
  have z1 := numS_size 1 6
  have HT : Hid (∀ W, Calls Tryd.prog 39 #[.string te] W fun e w' => e = .returned (.string (s8B te)) ∧ Below W.heap.size W w') := fun W => implS8_any te W (by omega)
  have zt := s8B_size te
  have HX : Hid (catB [numS 1 6, s8B te] = rqX ⟨6, te, me, nu, []⟩) := by show _ = _; rw [rqX6]; simp [catB]
  generalize numS 1 6 = N1 at *
  generalize s8B te = ST at *
  generalize rqX ⟨6, te, me, nu, []⟩ = RX at *
  obtain ⟨ti, hti, ht0, ht1, ht2⟩ := info_strR
  have HI : Hid (Tryd.prog.info? 9 = some ti) := hti
  clear hti
  go_enter Tryd.func21, Tryd.ntmps21
  go_wp2_with fail
  refine (HU.out _).mono ?_
  rintro e w1 ⟨rfl, hb1⟩
  have G1 : Hid (GE w (w1.alloc (.cells #[.string N1] 9)) true false false false false 6 te me nu (.slice a 0 cap) (.slice (some ⟨w1.heap.size, 0, none⟩) 1 1) (1) ([N1])) := GE.made hb1
  clear hb1
  go_upto_region 2 with fail
  generalize w1.alloc (.cells #[.string N1] 9) = W1 at *
  generalize w1.heap.size = g1 at *
  clear w1
  have s0 : W1.cell? ⟨w.heap.size, 0, none⟩ = some (.bool true) := G1.out.1.cell 0; have s1 : W1.cell? ⟨w.heap.size, 1, none⟩ = some (.bool false) := G1.out.1.cell 1; have s2 : W1.cell? ⟨w.heap.size, 2, none⟩ = some (.bool false) := G1.out.1.cell 2; have s3 : W1.cell? ⟨w.heap.size, 3, none⟩ = some (.bool false) := G1.out.1.cell 3; have r0 : W1.cell? ⟨w.heap.size + 1, 0, none⟩ = some (.int .i64 6) := G1.out.2.1.cell 0; have r1 : W1.cell? ⟨w.heap.size + 1, 1, none⟩ = some (.string te) := G1.out.2.1.cell 1; have r2 : W1.cell? ⟨w.heap.size + 1, 2, none⟩ = some (.string me) := G1.out.2.1.cell 2; have r3 : W1.cell? ⟨w.heap.size + 1, 3, none⟩ = some (.int .i64 nu) := G1.out.2.1.cell 3; have r4 : W1.cell? ⟨w.heap.size + 1, 4, none⟩ = some (.slice a 0 cap) := G1.out.2.1.cell 4
  go_wp2_with fail
  refine (HT.out _).mono ?_
  rintro e u2w ⟨rfl, hb2⟩
  have G1' : Hid (GE w u2w true false false false false 6 te me nu (.slice a 0 cap) (.slice (some ⟨g1, 0, none⟩) 1 1) (1) ([N1])) := G1.out.later hb2
  clear hb2 G1 s0 s1 s2 s3 r0 r1 r2 r3 r4
  go_wp2_with (at_builtin; refine wpList_append_lies _ rfl _ _ _ rfl (w.heap.size + 1 + 1) 9 ti _ 1 16 Tryd.underlying76 HI.out ht0 ht1 ht2 rfl (by omega) (.slice (some ⟨g1, 0, none⟩) 1 1) (1) (([N1]).map Value.string) rfl (by exact row_later G1'.out.2.2.1 (bnew _ _)) ⟨u2w.heap.size, 0, none⟩ 1 1 [.string ST] rfl rfl (by have := World.news_of_block (cs := #[.string ST]) (t := 9) (fr := (0, 0)) (heap_alloc_new u2w (.cells #[.string ST] 9)); simpa using this) (by simp [Value.oneCell']) (by omega) (by simp [maxLen]) (by omega) (by have := G1'.out.size; simp; omega) (u2w.heap.size + 1) (by simp) ?_; intro g2 d2 v2 hown hgrow hat hlt5; have G2 : Hid (GE w v2 true false false false false 6 te me nu (.slice a 0 cap) (.slice (some ⟨g2, 0, none⟩) (1 + 1) d2) (1 + 1) ([N1] ++ [ST])) := GE.grow (G1'.out.later (bnew _ _)) (qs := [ST]) hown rfl hgrow; have s0 : v2.cell? ⟨w.heap.size, 0, none⟩ = some (.bool true) := G2.out.1.cell 0; have s1 : v2.cell? ⟨w.heap.size, 1, none⟩ = some (.bool false) := G2.out.1.cell 1; have s2 : v2.cell? ⟨w.heap.size, 2, none⟩ = some (.bool false) := G2.out.1.cell 2; have s3 : v2.cell? ⟨w.heap.size, 3, none⟩ = some (.bool false) := G2.out.1.cell 3; have r0 : v2.cell? ⟨w.heap.size + 1, 0, none⟩ = some (.int .i64 6) := G2.out.2.1.cell 0; have r1 : v2.cell? ⟨w.heap.size + 1, 1, none⟩ = some (.string te) := G2.out.2.1.cell 1; have r2 : v2.cell? ⟨w.heap.size + 1, 2, none⟩ = some (.string me) := G2.out.2.1.cell 2; have r3 : v2.cell? ⟨w.heap.size + 1, 3, none⟩ = some (.int .i64 nu) := G2.out.2.1.cell 3; have r4 : v2.cell? ⟨w.heap.size + 1, 4, none⟩ = some (.slice a 0 cap) := G2.out.2.1.cell 4; clear hown hgrow hat hlt5)
  clear G1'
  try go_wp2
  go_loopw [5, 7, 32] (fun out _ i wr => i = .int .i64 0 ∧ out = .slice (some ⟨g2, 0, none⟩) (1 + 1) d2 ∧ Hid (GE w wr true false false false false 6 te me nu (.slice a 0 cap) (.slice (some ⟨g2, 0, none⟩) (1 + 1) d2) (1 + 1) ([N1] ++ [ST]))) (fun _ _ _ _ => 0)
  case atStart => exact ⟨rfl, rfl, G2.out⟩
  case round =>
    obtain ⟨rfl, rfl, GL⟩ := hrel
    clear s0 s1 s2 s3 r0 r1 r2 r3 r4
    have s0 : wr.cell? ⟨w.heap.size, 0, none⟩ = some (.bool true) := GL.out.1.cell 0; have s1 : wr.cell? ⟨w.heap.size, 1, none⟩ = some (.bool false) := GL.out.1.cell 1; have s2 : wr.cell? ⟨w.heap.size, 2, none⟩ = some (.bool false) := GL.out.1.cell 2; have s3 : wr.cell? ⟨w.heap.size, 3, none⟩ = some (.bool false) := GL.out.1.cell 3; have r0 : wr.cell? ⟨w.heap.size + 1, 0, none⟩ = some (.int .i64 6) := GL.out.2.1.cell 0; have r1 : wr.cell? ⟨w.heap.size + 1, 1, none⟩ = some (.string te) := GL.out.2.1.cell 1; have r2 : wr.cell? ⟨w.heap.size + 1, 2, none⟩ = some (.string me) := GL.out.2.1.cell 2; have r3 : wr.cell? ⟨w.heap.size + 1, 3, none⟩ = some (.int .i64 nu) := GL.out.2.1.cell 3; have r4 : wr.cell? ⟨w.heap.size + 1, 4, none⟩ = some (.slice a 0 cap) := GL.out.2.1.cell 4
    have HJ : Hid (Calls Tryd.prog 44 #[.slice (some ⟨g2, 0, none⟩) (1 + 1) d2] wr fun e w' => e = .returned (.string RX) ∧ Below wr.heap.size wr w') := by
      have h := GE.join GL.out (by simp) (by simp) (by simp [sumB]; omega)
      simp only [List.cons_append, List.nil_append] at h
      rw [HX.out] at h
      exact h
    have BW : Hid (Below w.heap.size w wr) := GL.out.2.2.2.1
    go_wp2_with fail
    refine HJ.out.mono ?_
    rintro e w9 ⟨rfl, hb9⟩
    have B9 : Hid (Below w.heap.size w w9) := bto BW.out hb9
    clear hb9
    go_wp2
    go_ret
    exact ⟨rfl, B9.out⟩
end Go.Proofs.YtoecnlhnfhongaaDoor

