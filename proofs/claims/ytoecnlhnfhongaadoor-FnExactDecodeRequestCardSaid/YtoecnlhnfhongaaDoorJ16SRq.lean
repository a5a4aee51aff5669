import Derived.Test.YtoecnlhnfhongaaDoorProg
import Derived.Test.YtoecnlhnfhongaaDoorJ03RqD
import Derived.Test.YtoecnlhnfhongaaDoorJ15SS8
import Derived.Test.YtoecnlhnfhongaaDoorJ04AppA
import Derived.Test.YtoecnlhnfhongaaDoorJ08IRqA
import Derived.Deep.RegionHeld3
import Derived.Deep.DeepCutAuto
namespace Go.Proofs.YtoecnlhnfhongaaDoor
open Go.RowKit

theorem ne_blockR {v v' : Value} {n b : Nat} (h : v.ownBlock ≠ some b) (hat : v'.ownBlock = v.ownBlock ∨ v'.ownBlock = some n) (hb : b < n) : v'.ownBlock ≠ some b := by
  rcases hat with e | e
  · rw [e]; exact h
  · rw [e]; intro h2; have := Option.some.inj h2; omega
/-- The bytes that are being gathered, and the request's box. -/
def GP (w w' : World) (k : Int) (te me : ByteArray) (nu : Int) (sl v : Value) (st : ByteArray) : Prop :=
  Blk w' w.heap.size #[.int .i64 k, .string te, .string me, .int .i64 nu, sl] 29 ∧ RowS w' (w.heap.size + 1) v st ∧ Below w.heap.size w w'
theorem GP.later {w w' w'' : World} {k : Int} {te me : ByteArray} {nu : Int} {sl v : Value} {st : ByteArray} (h : GP w w' k te me nu sl v st) (hb : Below w'.heap.size w' w'') : GP w w'' k te me nu sl v st :=
  ⟨h.1.later hb, h.2.1.later hb, bto h.2.2 hb⟩
theorem GP.size {w w' : World} {k : Int} {te me : ByteArray} {nu : Int} {sl v : Value} {st : ByteArray} (h : GP w w' k te me nu sl v st) : w.heap.size + 1 ≤ w'.heap.size := lt_of_block h.1
theorem GP.grow {w W w5 : World} {k : Int} {te me : ByteArray} {nu : Int} {sl v v5 : Value} {st x : ByteArray} (h : GP w W k te me nu sl v st) (hrow : RowS w5 (w.heap.size + 1) v5 (st ++ x)) (hB : Below (w.heap.size + 1) W w5) : GP w w5 k te me nu sl v5 (st ++ x) :=
  ⟨(hB.block w.heap.size (by omega)).trans h.1, hrow, h.2.2.trans (hB.mono (by omega))⟩

set_option maxRecDepth 100000 in
set_option maxHeartbeats 8000000 in
theorem bytes2_any (te me : ByteArray) (nu : Int) (xs : List SmpD) (a : Option Addr) (cap : Nat) (w : World) (V : ByteArray) (B : Bool) (HOK : Hid (rqOK ⟨2, te, me, nu, xs⟩ → V = rqX ⟨2, te, me, nu, xs⟩ ∧ B = true)) (HNO : Hid (¬ rqOK ⟨2, te, me, nu, xs⟩ → V = ByteArray.empty ∧ B = false)) (hf : SmpsIn w a xs) (hz : te.size ≤ 1048576 ∧ me.size ≤ 1048576 ∧ xs.length ≤ 1048576 ∧ smpsBulk xs ≤ 1048576) (hnu : -9223372036854775808 ≤ nu ∧ nu ≤ 9223372036854775807) (hbi : ∀ i (h : i < xs.length), -9223372036854775808 ≤ xs[i].bits ∧ xs[i].bits ≤ 9223372036854775807) :
    Calls Tryd.prog 15 #[.agg #[.int .i64 2, .string te, .string me, .int .i64 nu, .slice a xs.length cap]] w fun e w' => e = .returned (.tuple #[.string V, .bool B]) ∧ Below w.heap.size w w' := by
  have HRS : Hid (∀ (v : ByteArray) (b : Bool), V = v ∧ B = b → (Ending.returned (.tuple #[.string v, .bool b])) = Ending.returned (.tuple #[.string V, .bool B])) := fun v b h => by rw [h.1, h.2]
  have HBT : Hid (∀ W, Calls Tryd.prog 31 #[.int .i64 2, .int .i64 1, .int .i64 6] W fun e w' => e = .returned (.bool true) ∧ w' = W) := fun W => between_any 2 1 6 W
  by_cases hte : te.size = 0
  rotate_left
  · have E : Hid (V = ByteArray.empty ∧ B = false) := HNO.out fun h => hte (h.2.1 rfl)
    have hteb : (te.toList == []) = false := by rw [bemptyR]; exact decide_eq_false hte
    have htec : te.toList.isEmpty = false := by simpa using hteb
    clear hf hbi
    go_enter Tryd.func15, Tryd.ntmps15
    go_wp2_with fail
    refine (HBT.out _).mono ?_
    rintro e wx ⟨rfl, hw⟩
    replace hw := hw.symm
    subst hw
    go_wp2
    go_ret2
    exact ⟨HRS.out _ _ E.out, bnew _ _⟩
  have hteb : (te.toList == []) = true := by rw [bemptyR]; exact decide_eq_true hte
  have htec : te.toList.isEmpty = true := by simpa using hteb
  by_cases hme : me.size = 0
  rotate_left
  · have E : Hid (V = ByteArray.empty ∧ B = false) := HNO.out fun h => hme (h.2.2.1 rfl)
    have hmeb : (me.toList == []) = false := by rw [bemptyR]; exact decide_eq_false hme
    have hmec : me.toList.isEmpty = false := by simpa using hmeb
    clear hf hbi
    go_enter Tryd.func15, Tryd.ntmps15
    go_wp2_with fail
    refine (HBT.out _).mono ?_
    rintro e wx ⟨rfl, hw⟩
    replace hw := hw.symm
    subst hw
    go_wp2
    go_ret2
    exact ⟨HRS.out _ _ E.out, bnew _ _⟩
  have hmeb : (me.toList == []) = true := by rw [bemptyR]; exact decide_eq_true hme
  have hmec : me.toList.isEmpty = true := by simpa using hmeb
  by_cases hxs : xs.length = 0
  rotate_left
  · have E : Hid (V = ByteArray.empty ∧ B = false) := HNO.out fun h => hxs (List.length_eq_zero_iff.2 (h.2.2.2.2.1 (show ¬ (2 : Int) = 1 by decide)))
    have hxsb : ((xs.length : Nat) : Int) ≠ 0 := by omega
    have hxsc : (((xs.length : Nat) : Int) == 0) = false := by first | (rw [hxs]; rfl) | (apply Bool.eq_false_iff.2; intro h; have h2 := eq_of_beq h; omega)
    clear hf hbi
    go_enter Tryd.func15, Tryd.ntmps15
    go_wp2_with fail
    refine (HBT.out _).mono ?_
    rintro e wx ⟨rfl, hw⟩
    replace hw := hw.symm
    subst hw
    go_wp2
    go_ret2
    exact ⟨HRS.out _ _ E.out, bnew _ _⟩
  have hxsb : ((xs.length : Nat) : Int) = 0 := by omega
  have hxsc : (((xs.length : Nat) : Int) == 0) = true := by first | (rw [hxs]; rfl) | (apply Bool.eq_false_iff.2; intro h; have h2 := eq_of_beq h; omega)
  have htb : ¬ ((te.size : Int) > 255) := by omega
  have hmb : ¬ ((me.size : Int) > 65535) := by omega
  have hxb : ¬ ((xs.length : Int) > 500) := by omega
  have HU : Hid (∀ W, Calls Tryd.prog 32 #[.int .i64 1, .int .i64 2] W fun e w' => e = .returned (.string (numS 1 2)) ∧ Below W.heap.size W w') := fun W => specNum_any 1 2 W (by omega) (by omega) (by omega)
  have z1 := numS_size 1 2
  have HN : Hid (∀ W, Calls Tryd.prog 32 #[.int .i64 8, .int .i64 nu] W fun e w' => e = .returned (.string (numS 8 nu)) ∧ Below W.heap.size W w') := fun W => specNum_any 8 nu W (by omega) hnu.1 hnu.2
  have zn := numS_size 8 nu
  have hx0 : xs = [] := List.length_eq_zero_iff.1 hxs
  clear hxs hxsb hxsc hxb
  subst hx0

  show Calls _ _ #[.agg #[.int .i64 2, .string te, .string me, .int .i64 nu, .slice a 0 cap]] w _
  have E0 := HOK.out ⟨⟨show (1 : Int) ≤ 2 by decide, show (2 : Int) ≤ 6 by decide⟩, fun _ => hte, fun _ => hme, fun h => absurd (show nmK 2 = false from h) (by decide), fun _ => rfl, by simp only; omega, by simp only; omega, by simp, fun i hi => absurd hi (by simp)⟩
  rw [rqX2] at E0
  generalize numS 1 2 = N1 at *
  generalize numS 8 nu = SN at *
  have E : Hid (V = N1 ++ SN ∧ B = true) := E0
  clear E0 hf hbi HOK HNO
  obtain ⟨CV, CN, hcv, hcn⟩ := conv_fun N1 (by omega)
  have HCN : Hid (∀ w, RowS (CN w) w.heap.size (CV w) N1 ∧ Below w.heap.size w (CN w)) := hcn
  clear hcn
  go_enter Tryd.func15, Tryd.ntmps15
  go_wp2_with fail
  refine (HBT.out _).mono ?_
  rintro e wx ⟨rfl, hw⟩
  replace hw := hw.symm
  subst hw
  go_wp2_with fail
  refine (HU.out _).mono ?_
  rintro e w1 ⟨rfl, hb1⟩
  have G1 : Hid (GP w (CN w1) 2 te me nu (.slice a 0 cap) (CV w1) N1) := by
    have hs : w.heap.size + 1 ≤ w1.heap.size := by have := hb1.size; simpa using this
    exact ⟨((Blk.new _ _ _).later hb1).later (HCN.out w1).2, (HCN.out w1).1.mono hs, bto (bto (bnew _ _) hb1) (HCN.out w1).2⟩
  clear hb1
  go_upto_region 11 with fail
  generalize CN w1 = W1 at *
  generalize CV w1 = v1 at *
  clear hcv HCN
  have r0 : W1.cell? ⟨w.heap.size, 0, none⟩ = some (.int .i64 2) := G1.out.1.cell 0; have r1 : W1.cell? ⟨w.heap.size, 1, none⟩ = some (.string te) := G1.out.1.cell 1; have r2 : W1.cell? ⟨w.heap.size, 2, none⟩ = some (.string me) := G1.out.1.cell 2; have r3 : W1.cell? ⟨w.heap.size, 3, none⟩ = some (.int .i64 nu) := G1.out.1.cell 3; have r4 : W1.cell? ⟨w.heap.size, 4, none⟩ = some (.slice a 0 cap) := G1.out.1.cell 4
  go_wp2_with fail
  refine (HN.out _).mono ?_
  rintro e c2w ⟨rfl, hb2⟩
  have G1' : Hid (GP w c2w 2 te me nu (.slice a 0 cap) v1 (N1)) := G1.out.later hb2
  clear hb2 G1 r0 r1 r2 r3 r4
  go_wp2_with (at_builtin; refine wpList_append_s _ rfl _ _ rfl (w.heap.size + 1) _ (N1) SN rfl G1'.out.2.1 rfl (by have := G1'.out.size; omega) (by omega) ?_; intro v2 u2w hrow5 hB5 hk5 hat5 hle5; have G2 : Hid (GP w u2w 2 te me nu (.slice a 0 cap) v2 (N1 ++ SN)) := GP.grow G1'.out hrow5 hB5; have r0 : u2w.cell? ⟨w.heap.size, 0, none⟩ = some (.int .i64 2) := G2.out.1.cell 0; have r1 : u2w.cell? ⟨w.heap.size, 1, none⟩ = some (.string te) := G2.out.1.cell 1; have r2 : u2w.cell? ⟨w.heap.size, 2, none⟩ = some (.string me) := G2.out.1.cell 2; have r3 : u2w.cell? ⟨w.heap.size, 3, none⟩ = some (.int .i64 nu) := G2.out.1.cell 3; have r4 : u2w.cell? ⟨w.heap.size, 4, none⟩ = some (.slice a 0 cap) := G2.out.1.cell 4; have hbk := back_s G2.out.2.1; clear hrow5 hB5 hk5 hat5 hle5)
  clear G1'
  skip
  have BW : Hid (Below w.heap.size w u2w) := G2.out.2.2
  go_wp2
  go_ret2
  exact ⟨HRS.out _ _ E.out, BW.out⟩

set_option maxRecDepth 100000 in
set_option maxHeartbeats 8000000 in
theorem bytes3_any (te me : ByteArray) (nu : Int) (xs : List SmpD) (a : Option Addr) (cap : Nat) (w : World) (V : ByteArray) (B : Bool) (HOK : Hid (rqOK ⟨3, te, me, nu, xs⟩ → V = rqX ⟨3, te, me, nu, xs⟩ ∧ B = true)) (HNO : Hid (¬ rqOK ⟨3, te, me, nu, xs⟩ → V = ByteArray.empty ∧ B = false)) (hf : SmpsIn w a xs) (hz : te.size ≤ 1048576 ∧ me.size ≤ 1048576 ∧ xs.length ≤ 1048576 ∧ smpsBulk xs ≤ 1048576) (hnu : -9223372036854775808 ≤ nu ∧ nu ≤ 9223372036854775807) (hbi : ∀ i (h : i < xs.length), -9223372036854775808 ≤ xs[i].bits ∧ xs[i].bits ≤ 9223372036854775807) :
    Calls Tryd.prog 15 #[.agg #[.int .i64 3, .string te, .string me, .int .i64 nu, .slice a xs.length cap]] w fun e w' => e = .returned (.tuple #[.string V, .bool B]) ∧ Below w.heap.size w w' := by
  have HRS : Hid (∀ (v : ByteArray) (b : Bool), V = v ∧ B = b → (Ending.returned (.tuple #[.string v, .bool b])) = Ending.returned (.tuple #[.string V, .bool B])) := fun v b h => by rw [h.1, h.2]
  have HBT : Hid (∀ W, Calls Tryd.prog 31 #[.int .i64 3, .int .i64 1, .int .i64 6] W fun e w' => e = .returned (.bool true) ∧ w' = W) := fun W => between_any 3 1 6 W
  by_cases hxs : xs.length = 0
  rotate_left
  · have E : Hid (V = ByteArray.empty ∧ B = false) := HNO.out fun h => hxs (List.length_eq_zero_iff.2 (h.2.2.2.2.1 (show ¬ (3 : Int) = 1 by decide)))
    have hxsb : ((xs.length : Nat) : Int) ≠ 0 := by omega
    have hxsc : (((xs.length : Nat) : Int) == 0) = false := by first | (rw [hxs]; rfl) | (apply Bool.eq_false_iff.2; intro h; have h2 := eq_of_beq h; omega)
    clear hf hbi
    go_enter Tryd.func15, Tryd.ntmps15
    go_wp2_with fail
    refine (HBT.out _).mono ?_
    rintro e wx ⟨rfl, hw⟩
    replace hw := hw.symm
    subst hw
    go_wp2
    go_ret2
    exact ⟨HRS.out _ _ E.out, bnew _ _⟩
  have hxsb : ((xs.length : Nat) : Int) = 0 := by omega
  have hxsc : (((xs.length : Nat) : Int) == 0) = true := by first | (rw [hxs]; rfl) | (apply Bool.eq_false_iff.2; intro h; have h2 := eq_of_beq h; omega)
  by_cases htb : te.size ≤ 255
  rotate_left
  · have E : Hid (V = ByteArray.empty ∧ B = false) := HNO.out fun h => htb (h.2.2.2.2.2.1)
    have htbb : ((te.size : Int) > 255) := by omega
    clear hf hbi
    go_enter Tryd.func15, Tryd.ntmps15
    go_wp2_with fail
    refine (HBT.out _).mono ?_
    rintro e wx ⟨rfl, hw⟩
    replace hw := hw.symm
    subst hw
    go_wp2
    go_ret2
    exact ⟨HRS.out _ _ E.out, bnew _ _⟩
  have htbb : ¬ ((te.size : Int) > 255) := by omega
  by_cases hmb : me.size ≤ 65535
  rotate_left
  · have E : Hid (V = ByteArray.empty ∧ B = false) := HNO.out fun h => hmb (h.2.2.2.2.2.2.1)
    have hmbb : ((me.size : Int) > 65535) := by omega
    clear hf hbi
    go_enter Tryd.func15, Tryd.ntmps15
    go_wp2_with fail
    refine (HBT.out _).mono ?_
    rintro e wx ⟨rfl, hw⟩
    replace hw := hw.symm
    subst hw
    go_wp2
    go_ret2
    exact ⟨HRS.out _ _ E.out, bnew _ _⟩
  have hmbb : ¬ ((me.size : Int) > 65535) := by omega
  have hxb : ¬ ((xs.length : Int) > 500) := by omega
  have HU : Hid (∀ W, Calls Tryd.prog 32 #[.int .i64 1, .int .i64 3] W fun e w' => e = .returned (.string (numS 1 3)) ∧ Below W.heap.size W w') := fun W => specNum_any 1 3 W (by omega) (by omega) (by omega)
  have z1 := numS_size 1 3
  have HT : Hid (∀ W, Calls Tryd.prog 33 #[.string te] W fun e w' => e = .returned (.string (s8B te)) ∧ Below W.heap.size W w') := fun W => specS8_any te W (by omega)
  have zt := s8B_size te
  have HM : Hid (∀ W, Calls Tryd.prog 34 #[.string me] W fun e w' => e = .returned (.string (s16B me)) ∧ Below W.heap.size W w') := fun W => specS16_any me W (by omega)
  have zm := s16B_size me
  have HN : Hid (∀ W, Calls Tryd.prog 32 #[.int .i64 8, .int .i64 nu] W fun e w' => e = .returned (.string (numS 8 nu)) ∧ Below W.heap.size W w') := fun W => specNum_any 8 nu W (by omega) hnu.1 hnu.2
  have zn := numS_size 8 nu
  have hx0 : xs = [] := List.length_eq_zero_iff.1 hxs
  clear hxs hxsb hxsc hxb
  subst hx0

  show Calls _ _ #[.agg #[.int .i64 3, .string te, .string me, .int .i64 nu, .slice a 0 cap]] w _
  have E0 := HOK.out ⟨⟨show (1 : Int) ≤ 3 by decide, show (3 : Int) ≤ 6 by decide⟩, fun h => absurd (show tnK 3 = false from h) (by decide), fun h => absurd (show mtK 3 = false from h) (by decide), fun h => absurd (show nmK 3 = false from h) (by decide), fun _ => rfl, by simp only; omega, by simp only; omega, by simp, fun i hi => absurd hi (by simp)⟩
  rw [rqX3] at E0
  generalize numS 1 3 = N1 at *
  generalize s8B te = ST at *
  generalize s16B me = SM at *
  generalize numS 8 nu = SN at *
  have E : Hid (V = N1 ++ ST ++ SM ++ SN ∧ B = true) := E0
  clear E0 hf hbi HOK HNO
  obtain ⟨CV, CN, hcv, hcn⟩ := conv_fun N1 (by omega)
  have HCN : Hid (∀ w, RowS (CN w) w.heap.size (CV w) N1 ∧ Below w.heap.size w (CN w)) := hcn
  clear hcn
  go_enter Tryd.func15, Tryd.ntmps15
  go_wp2_with fail
  refine (HBT.out _).mono ?_
  rintro e wx ⟨rfl, hw⟩
  replace hw := hw.symm
  subst hw
  go_wp2_with fail
  refine (HU.out _).mono ?_
  rintro e w1 ⟨rfl, hb1⟩
  have G1 : Hid (GP w (CN w1) 3 te me nu (.slice a 0 cap) (CV w1) N1) := by
    have hs : w.heap.size + 1 ≤ w1.heap.size := by have := hb1.size; simpa using this
    exact ⟨((Blk.new _ _ _).later hb1).later (HCN.out w1).2, (HCN.out w1).1.mono hs, bto (bto (bnew _ _) hb1) (HCN.out w1).2⟩
  clear hb1
  go_upto_region 11 with fail
  generalize CN w1 = W1 at *
  generalize CV w1 = v1 at *
  clear hcv HCN
  have r0 : W1.cell? ⟨w.heap.size, 0, none⟩ = some (.int .i64 3) := G1.out.1.cell 0; have r1 : W1.cell? ⟨w.heap.size, 1, none⟩ = some (.string te) := G1.out.1.cell 1; have r2 : W1.cell? ⟨w.heap.size, 2, none⟩ = some (.string me) := G1.out.1.cell 2; have r3 : W1.cell? ⟨w.heap.size, 3, none⟩ = some (.int .i64 nu) := G1.out.1.cell 3; have r4 : W1.cell? ⟨w.heap.size, 4, none⟩ = some (.slice a 0 cap) := G1.out.1.cell 4
  go_wp2_with fail
  refine (HT.out _).mono ?_
  rintro e c2w ⟨rfl, hb2⟩
  have G1' : Hid (GP w c2w 3 te me nu (.slice a 0 cap) v1 (N1)) := G1.out.later hb2
  clear hb2 G1 r0 r1 r2 r3 r4
  go_wp2_with (at_builtin; refine wpList_append_s _ rfl _ _ rfl (w.heap.size + 1) _ (N1) ST rfl G1'.out.2.1 rfl (by have := G1'.out.size; omega) (by omega) ?_; intro v2 u2w hrow5 hB5 hk5 hat5 hle5; have G2 : Hid (GP w u2w 3 te me nu (.slice a 0 cap) v2 (N1 ++ ST)) := GP.grow G1'.out hrow5 hB5; have r0 : u2w.cell? ⟨w.heap.size, 0, none⟩ = some (.int .i64 3) := G2.out.1.cell 0; have r1 : u2w.cell? ⟨w.heap.size, 1, none⟩ = some (.string te) := G2.out.1.cell 1; have r2 : u2w.cell? ⟨w.heap.size, 2, none⟩ = some (.string me) := G2.out.1.cell 2; have r3 : u2w.cell? ⟨w.heap.size, 3, none⟩ = some (.int .i64 nu) := G2.out.1.cell 3; have r4 : u2w.cell? ⟨w.heap.size, 4, none⟩ = some (.slice a 0 cap) := G2.out.1.cell 4; have hbk := back_s G2.out.2.1; clear hrow5 hB5 hk5 hat5 hle5)
  clear G1'
  go_wp2_with fail
  refine (HM.out _).mono ?_
  rintro e c3w ⟨rfl, hb2⟩
  have G2' : Hid (GP w c3w 3 te me nu (.slice a 0 cap) v2 (N1 ++ ST)) := G2.out.later hb2
  clear hb2 G2 r0 r1 r2 r3 r4 hbk
  go_wp2_with (at_builtin; refine wpList_append_s _ rfl _ _ rfl (w.heap.size + 1) _ (N1 ++ ST) SM rfl G2'.out.2.1 rfl (by have := G2'.out.size; omega) (by simp only [ByteArray.size_append]; omega) ?_; intro v3 u3w hrow5 hB5 hk5 hat5 hle5; have G3 : Hid (GP w u3w 3 te me nu (.slice a 0 cap) v3 (N1 ++ ST ++ SM)) := GP.grow G2'.out hrow5 hB5; have r0 : u3w.cell? ⟨w.heap.size, 0, none⟩ = some (.int .i64 3) := G3.out.1.cell 0; have r1 : u3w.cell? ⟨w.heap.size, 1, none⟩ = some (.string te) := G3.out.1.cell 1; have r2 : u3w.cell? ⟨w.heap.size, 2, none⟩ = some (.string me) := G3.out.1.cell 2; have r3 : u3w.cell? ⟨w.heap.size, 3, none⟩ = some (.int .i64 nu) := G3.out.1.cell 3; have r4 : u3w.cell? ⟨w.heap.size, 4, none⟩ = some (.slice a 0 cap) := G3.out.1.cell 4; have hbk := back_s G3.out.2.1; clear hrow5 hB5 hk5 hat5 hle5)
  clear G2'
  go_wp2_with fail
  refine (HN.out _).mono ?_
  rintro e c4w ⟨rfl, hb2⟩
  have G3' : Hid (GP w c4w 3 te me nu (.slice a 0 cap) v3 (N1 ++ ST ++ SM)) := G3.out.later hb2
  clear hb2 G3 r0 r1 r2 r3 r4 hbk
  go_wp2_with (at_builtin; refine wpList_append_s _ rfl _ _ rfl (w.heap.size + 1) _ (N1 ++ ST ++ SM) SN rfl G3'.out.2.1 rfl (by have := G3'.out.size; omega) (by simp only [ByteArray.size_append]; omega) ?_; intro v4 u4w hrow5 hB5 hk5 hat5 hle5; have G4 : Hid (GP w u4w 3 te me nu (.slice a 0 cap) v4 (N1 ++ ST ++ SM ++ SN)) := GP.grow G3'.out hrow5 hB5; have r0 : u4w.cell? ⟨w.heap.size, 0, none⟩ = some (.int .i64 3) := G4.out.1.cell 0; have r1 : u4w.cell? ⟨w.heap.size, 1, none⟩ = some (.string te) := G4.out.1.cell 1; have r2 : u4w.cell? ⟨w.heap.size, 2, none⟩ = some (.string me) := G4.out.1.cell 2; have r3 : u4w.cell? ⟨w.heap.size, 3, none⟩ = some (.int .i64 nu) := G4.out.1.cell 3; have r4 : u4w.cell? ⟨w.heap.size, 4, none⟩ = some (.slice a 0 cap) := G4.out.1.cell 4; have hbk := back_s G4.out.2.1; clear hrow5 hB5 hk5 hat5 hle5)
  clear G3'
  skip
  have BW : Hid (Below w.heap.size w u4w) := G4.out.2.2
  go_wp2
  go_ret2
  exact ⟨HRS.out _ _ E.out, BW.out⟩

set_option maxRecDepth 100000 in
set_option maxHeartbeats 8000000 in
theorem bytes4_any (te me : ByteArray) (nu : Int) (xs : List SmpD) (a : Option Addr) (cap : Nat) (w : World) (V : ByteArray) (B : Bool) (HOK : Hid (rqOK ⟨4, te, me, nu, xs⟩ → V = rqX ⟨4, te, me, nu, xs⟩ ∧ B = true)) (HNO : Hid (¬ rqOK ⟨4, te, me, nu, xs⟩ → V = ByteArray.empty ∧ B = false)) (hf : SmpsIn w a xs) (hz : te.size ≤ 1048576 ∧ me.size ≤ 1048576 ∧ xs.length ≤ 1048576 ∧ smpsBulk xs ≤ 1048576) (hnu : -9223372036854775808 ≤ nu ∧ nu ≤ 9223372036854775807) (hbi : ∀ i (h : i < xs.length), -9223372036854775808 ≤ xs[i].bits ∧ xs[i].bits ≤ 9223372036854775807) :
    Calls Tryd.prog 15 #[.agg #[.int .i64 4, .string te, .string me, .int .i64 nu, .slice a xs.length cap]] w fun e w' => e = .returned (.tuple #[.string V, .bool B]) ∧ Below w.heap.size w w' := by
  have HRS : Hid (∀ (v : ByteArray) (b : Bool), V = v ∧ B = b → (Ending.returned (.tuple #[.string v, .bool b])) = Ending.returned (.tuple #[.string V, .bool B])) := fun v b h => by rw [h.1, h.2]
  have HBT : Hid (∀ W, Calls Tryd.prog 31 #[.int .i64 4, .int .i64 1, .int .i64 6] W fun e w' => e = .returned (.bool true) ∧ w' = W) := fun W => between_any 4 1 6 W
  by_cases hte : te.size = 0
  rotate_left
  · have E : Hid (V = ByteArray.empty ∧ B = false) := HNO.out fun h => hte (h.2.1 rfl)
    have hteb : (te.toList == []) = false := by rw [bemptyR]; exact decide_eq_false hte
    have htec : te.toList.isEmpty = false := by simpa using hteb
    clear hf hbi
    go_enter Tryd.func15, Tryd.ntmps15
    go_wp2_with fail
    refine (HBT.out _).mono ?_
    rintro e wx ⟨rfl, hw⟩
    replace hw := hw.symm
    subst hw
    go_wp2
    go_ret2
    exact ⟨HRS.out _ _ E.out, bnew _ _⟩
  have hteb : (te.toList == []) = true := by rw [bemptyR]; exact decide_eq_true hte
  have htec : te.toList.isEmpty = true := by simpa using hteb
  by_cases hme : me.size = 0
  rotate_left
  · have E : Hid (V = ByteArray.empty ∧ B = false) := HNO.out fun h => hme (h.2.2.1 rfl)
    have hmeb : (me.toList == []) = false := by rw [bemptyR]; exact decide_eq_false hme
    have hmec : me.toList.isEmpty = false := by simpa using hmeb
    clear hf hbi
    go_enter Tryd.func15, Tryd.ntmps15
    go_wp2_with fail
    refine (HBT.out _).mono ?_
    rintro e wx ⟨rfl, hw⟩
    replace hw := hw.symm
    subst hw
    go_wp2
    go_ret2
    exact ⟨HRS.out _ _ E.out, bnew _ _⟩
  have hmeb : (me.toList == []) = true := by rw [bemptyR]; exact decide_eq_true hme
  have hmec : me.toList.isEmpty = true := by simpa using hmeb
  by_cases hnu0 : nu = 0
  rotate_left
  · have E : Hid (V = ByteArray.empty ∧ B = false) := HNO.out fun h => hnu0 (h.2.2.2.1 rfl)
    have hnu0b : (nu == 0) = false := by simp [hnu0]
    clear hf hbi
    go_enter Tryd.func15, Tryd.ntmps15
    go_wp2_with fail
    refine (HBT.out _).mono ?_
    rintro e wx ⟨rfl, hw⟩
    replace hw := hw.symm
    subst hw
    go_wp2
    go_ret2
    exact ⟨HRS.out _ _ E.out, bnew _ _⟩
  have hnu0b : (nu == 0) = true := by simp [hnu0]
  by_cases hxs : xs.length = 0
  rotate_left
  · have E : Hid (V = ByteArray.empty ∧ B = false) := HNO.out fun h => hxs (List.length_eq_zero_iff.2 (h.2.2.2.2.1 (show ¬ (4 : Int) = 1 by decide)))
    have hxsb : ((xs.length : Nat) : Int) ≠ 0 := by omega
    have hxsc : (((xs.length : Nat) : Int) == 0) = false := by first | (rw [hxs]; rfl) | (apply Bool.eq_false_iff.2; intro h; have h2 := eq_of_beq h; omega)
    clear hf hbi
    go_enter Tryd.func15, Tryd.ntmps15
    go_wp2_with fail
    refine (HBT.out _).mono ?_
    rintro e wx ⟨rfl, hw⟩
    replace hw := hw.symm
    subst hw
    go_wp2
    go_ret2
    exact ⟨HRS.out _ _ E.out, bnew _ _⟩
  have hxsb : ((xs.length : Nat) : Int) = 0 := by omega
  have hxsc : (((xs.length : Nat) : Int) == 0) = true := by first | (rw [hxs]; rfl) | (apply Bool.eq_false_iff.2; intro h; have h2 := eq_of_beq h; omega)
  have htb : ¬ ((te.size : Int) > 255) := by omega
  have hmb : ¬ ((me.size : Int) > 65535) := by omega
  have hxb : ¬ ((xs.length : Int) > 500) := by omega
  have HU : Hid (∀ W, Calls Tryd.prog 32 #[.int .i64 1, .int .i64 4] W fun e w' => e = .returned (.string (numS 1 4)) ∧ Below W.heap.size W w') := fun W => specNum_any 1 4 W (by omega) (by omega) (by omega)
  have z1 := numS_size 1 4
  have hx0 : xs = [] := List.length_eq_zero_iff.1 hxs
  clear hxs hxsb hxsc hxb
  subst hx0
  clear hnu0b
  subst hnu0
  show Calls _ _ #[.agg #[.int .i64 4, .string te, .string me, .int .i64 0, .slice a 0 cap]] w _
  have E0 := HOK.out ⟨⟨show (1 : Int) ≤ 4 by decide, show (4 : Int) ≤ 6 by decide⟩, fun _ => hte, fun _ => hme, fun _ => rfl, fun _ => rfl, by simp only; omega, by simp only; omega, by simp, fun i hi => absurd hi (by simp)⟩
  rw [rqX4] at E0
  generalize numS 1 4 = N1 at *
  have E : Hid (V = N1 ∧ B = true) := E0
  clear E0 hf hbi HOK HNO
  obtain ⟨CV, CN, hcv, hcn⟩ := conv_fun N1 (by omega)
  have HCN : Hid (∀ w, RowS (CN w) w.heap.size (CV w) N1 ∧ Below w.heap.size w (CN w)) := hcn
  clear hcn
  go_enter Tryd.func15, Tryd.ntmps15
  go_wp2_with fail
  refine (HBT.out _).mono ?_
  rintro e wx ⟨rfl, hw⟩
  replace hw := hw.symm
  subst hw
  go_wp2_with fail
  refine (HU.out _).mono ?_
  rintro e w1 ⟨rfl, hb1⟩
  have G1 : Hid (GP w (CN w1) 4 te me 0 (.slice a 0 cap) (CV w1) N1) := by
    have hs : w.heap.size + 1 ≤ w1.heap.size := by have := hb1.size; simpa using this
    exact ⟨((Blk.new _ _ _).later hb1).later (HCN.out w1).2, (HCN.out w1).1.mono hs, bto (bto (bnew _ _) hb1) (HCN.out w1).2⟩
  clear hb1
  go_upto_region 11 with fail
  generalize CN w1 = W1 at *
  generalize CV w1 = v1 at *
  clear hcv HCN
  have r0 : W1.cell? ⟨w.heap.size, 0, none⟩ = some (.int .i64 4) := G1.out.1.cell 0; have r1 : W1.cell? ⟨w.heap.size, 1, none⟩ = some (.string te) := G1.out.1.cell 1; have r2 : W1.cell? ⟨w.heap.size, 2, none⟩ = some (.string me) := G1.out.1.cell 2; have r3 : W1.cell? ⟨w.heap.size, 3, none⟩ = some (.int .i64 0) := G1.out.1.cell 3; have r4 : W1.cell? ⟨w.heap.size, 4, none⟩ = some (.slice a 0 cap) := G1.out.1.cell 4
  have hbk := back_s G1.out.2.1
  have BW : Hid (Below w.heap.size w W1) := G1.out.2.2
  go_wp2
  go_ret2
  exact ⟨HRS.out _ _ E.out, BW.out⟩

set_option maxRecDepth 100000 in
set_option maxHeartbeats 8000000 in
theorem bytes5_any (te me : ByteArray) (nu : Int) (xs : List SmpD) (a : Option Addr) (cap : Nat) (w : World) (V : ByteArray) (B : Bool) (HOK : Hid (rqOK ⟨5, te, me, nu, xs⟩ → V = rqX ⟨5, te, me, nu, xs⟩ ∧ B = true)) (HNO : Hid (¬ rqOK ⟨5, te, me, nu, xs⟩ → V = ByteArray.empty ∧ B = false)) (hf : SmpsIn w a xs) (hz : te.size ≤ 1048576 ∧ me.size ≤ 1048576 ∧ xs.length ≤ 1048576 ∧ smpsBulk xs ≤ 1048576) (hnu : -9223372036854775808 ≤ nu ∧ nu ≤ 9223372036854775807) (hbi : ∀ i (h : i < xs.length), -9223372036854775808 ≤ xs[i].bits ∧ xs[i].bits ≤ 9223372036854775807) :
    Calls Tryd.prog 15 #[.agg #[.int .i64 5, .string te, .string me, .int .i64 nu, .slice a xs.length cap]] w fun e w' => e = .returned (.tuple #[.string V, .bool B]) ∧ Below w.heap.size w w' := by
  have HRS : Hid (∀ (v : ByteArray) (b : Bool), V = v ∧ B = b → (Ending.returned (.tuple #[.string v, .bool b])) = Ending.returned (.tuple #[.string V, .bool B])) := fun v b h => by rw [h.1, h.2]
  have HBT : Hid (∀ W, Calls Tryd.prog 31 #[.int .i64 5, .int .i64 1, .int .i64 6] W fun e w' => e = .returned (.bool true) ∧ w' = W) := fun W => between_any 5 1 6 W
  by_cases hnu0 : nu = 0
  rotate_left
  · have E : Hid (V = ByteArray.empty ∧ B = false) := HNO.out fun h => hnu0 (h.2.2.2.1 rfl)
    have hnu0b : (nu == 0) = false := by simp [hnu0]
    clear hf hbi
    go_enter Tryd.func15, Tryd.ntmps15
    go_wp2_with fail
    refine (HBT.out _).mono ?_
    rintro e wx ⟨rfl, hw⟩
    replace hw := hw.symm
    subst hw
    go_wp2
    go_ret2
    exact ⟨HRS.out _ _ E.out, bnew _ _⟩
  have hnu0b : (nu == 0) = true := by simp [hnu0]
  by_cases hxs : xs.length = 0
  rotate_left
  · have E : Hid (V = ByteArray.empty ∧ B = false) := HNO.out fun h => hxs (List.length_eq_zero_iff.2 (h.2.2.2.2.1 (show ¬ (5 : Int) = 1 by decide)))
    have hxsb : ((xs.length : Nat) : Int) ≠ 0 := by omega
    have hxsc : (((xs.length : Nat) : Int) == 0) = false := by first | (rw [hxs]; rfl) | (apply Bool.eq_false_iff.2; intro h; have h2 := eq_of_beq h; omega)
    clear hf hbi
    go_enter Tryd.func15, Tryd.ntmps15
    go_wp2_with fail
    refine (HBT.out _).mono ?_
    rintro e wx ⟨rfl, hw⟩
    replace hw := hw.symm
    subst hw
    go_wp2
    go_ret2
    exact ⟨HRS.out _ _ E.out, bnew _ _⟩
  have hxsb : ((xs.length : Nat) : Int) = 0 := by omega
  have hxsc : (((xs.length : Nat) : Int) == 0) = true := by first | (rw [hxs]; rfl) | (apply Bool.eq_false_iff.2; intro h; have h2 := eq_of_beq h; omega)
  by_cases htb : te.size ≤ 255
  rotate_left
  · have E : Hid (V = ByteArray.empty ∧ B = false) := HNO.out fun h => htb (h.2.2.2.2.2.1)
    have htbb : ((te.size : Int) > 255) := by omega
    clear hf hbi
    go_enter Tryd.func15, Tryd.ntmps15
    go_wp2_with fail
    refine (HBT.out _).mono ?_
    rintro e wx ⟨rfl, hw⟩
    replace hw := hw.symm
    subst hw
    go_wp2
    go_ret2
    exact ⟨HRS.out _ _ E.out, bnew _ _⟩
  have htbb : ¬ ((te.size : Int) > 255) := by omega
  by_cases hmb : me.size ≤ 65535
  rotate_left
  · have E : Hid (V = ByteArray.empty ∧ B = false) := HNO.out fun h => hmb (h.2.2.2.2.2.2.1)
    have hmbb : ((me.size : Int) > 65535) := by omega
    clear hf hbi
    go_enter Tryd.func15, Tryd.ntmps15
    go_wp2_with fail
    refine (HBT.out _).mono ?_
    rintro e wx ⟨rfl, hw⟩
    replace hw := hw.symm
    subst hw
    go_wp2
    go_ret2
    exact ⟨HRS.out _ _ E.out, bnew _ _⟩
  have hmbb : ¬ ((me.size : Int) > 65535) := by omega
  have hxb : ¬ ((xs.length : Int) > 500) := by omega
  have HU : Hid (∀ W, Calls Tryd.prog 32 #[.int .i64 1, .int .i64 5] W fun e w' => e = .returned (.string (numS 1 5)) ∧ Below W.heap.size W w') := fun W => specNum_any 1 5 W (by omega) (by omega) (by omega)
  have z1 := numS_size 1 5
  have HT : Hid (∀ W, Calls Tryd.prog 33 #[.string te] W fun e w' => e = .returned (.string (s8B te)) ∧ Below W.heap.size W w') := fun W => specS8_any te W (by omega)
  have zt := s8B_size te
  have HM : Hid (∀ W, Calls Tryd.prog 34 #[.string me] W fun e w' => e = .returned (.string (s16B me)) ∧ Below W.heap.size W w') := fun W => specS16_any me W (by omega)
  have zm := s16B_size me
  have hx0 : xs = [] := List.length_eq_zero_iff.1 hxs
  clear hxs hxsb hxsc hxb
  subst hx0
  clear hnu0b
  subst hnu0
  show Calls _ _ #[.agg #[.int .i64 5, .string te, .string me, .int .i64 0, .slice a 0 cap]] w _
  have E0 := HOK.out ⟨⟨show (1 : Int) ≤ 5 by decide, show (5 : Int) ≤ 6 by decide⟩, fun h => absurd (show tnK 5 = false from h) (by decide), fun h => absurd (show mtK 5 = false from h) (by decide), fun _ => rfl, fun _ => rfl, by simp only; omega, by simp only; omega, by simp, fun i hi => absurd hi (by simp)⟩
  rw [rqX5] at E0
  generalize numS 1 5 = N1 at *
  generalize s8B te = ST at *
  generalize s16B me = SM at *
  have E : Hid (V = N1 ++ ST ++ SM ∧ B = true) := E0
  clear E0 hf hbi HOK HNO
  obtain ⟨CV, CN, hcv, hcn⟩ := conv_fun N1 (by omega)
  have HCN : Hid (∀ w, RowS (CN w) w.heap.size (CV w) N1 ∧ Below w.heap.size w (CN w)) := hcn
  clear hcn
  go_enter Tryd.func15, Tryd.ntmps15
  go_wp2_with fail
  refine (HBT.out _).mono ?_
  rintro e wx ⟨rfl, hw⟩
  replace hw := hw.symm
  subst hw
  go_wp2_with fail
  refine (HU.out _).mono ?_
  rintro e w1 ⟨rfl, hb1⟩
  have G1 : Hid (GP w (CN w1) 5 te me 0 (.slice a 0 cap) (CV w1) N1) := by
    have hs : w.heap.size + 1 ≤ w1.heap.size := by have := hb1.size; simpa using this
    exact ⟨((Blk.new _ _ _).later hb1).later (HCN.out w1).2, (HCN.out w1).1.mono hs, bto (bto (bnew _ _) hb1) (HCN.out w1).2⟩
  clear hb1
  go_upto_region 11 with fail
  generalize CN w1 = W1 at *
  generalize CV w1 = v1 at *
  clear hcv HCN
  have r0 : W1.cell? ⟨w.heap.size, 0, none⟩ = some (.int .i64 5) := G1.out.1.cell 0; have r1 : W1.cell? ⟨w.heap.size, 1, none⟩ = some (.string te) := G1.out.1.cell 1; have r2 : W1.cell? ⟨w.heap.size, 2, none⟩ = some (.string me) := G1.out.1.cell 2; have r3 : W1.cell? ⟨w.heap.size, 3, none⟩ = some (.int .i64 0) := G1.out.1.cell 3; have r4 : W1.cell? ⟨w.heap.size, 4, none⟩ = some (.slice a 0 cap) := G1.out.1.cell 4
  go_wp2_with fail
  refine (HT.out _).mono ?_
  rintro e c2w ⟨rfl, hb2⟩
  have G1' : Hid (GP w c2w 5 te me 0 (.slice a 0 cap) v1 (N1)) := G1.out.later hb2
  clear hb2 G1 r0 r1 r2 r3 r4
  go_wp2_with (at_builtin; refine wpList_append_s _ rfl _ _ rfl (w.heap.size + 1) _ (N1) ST rfl G1'.out.2.1 rfl (by have := G1'.out.size; omega) (by omega) ?_; intro v2 u2w hrow5 hB5 hk5 hat5 hle5; have G2 : Hid (GP w u2w 5 te me 0 (.slice a 0 cap) v2 (N1 ++ ST)) := GP.grow G1'.out hrow5 hB5; have r0 : u2w.cell? ⟨w.heap.size, 0, none⟩ = some (.int .i64 5) := G2.out.1.cell 0; have r1 : u2w.cell? ⟨w.heap.size, 1, none⟩ = some (.string te) := G2.out.1.cell 1; have r2 : u2w.cell? ⟨w.heap.size, 2, none⟩ = some (.string me) := G2.out.1.cell 2; have r3 : u2w.cell? ⟨w.heap.size, 3, none⟩ = some (.int .i64 0) := G2.out.1.cell 3; have r4 : u2w.cell? ⟨w.heap.size, 4, none⟩ = some (.slice a 0 cap) := G2.out.1.cell 4; have hbk := back_s G2.out.2.1; clear hrow5 hB5 hk5 hat5 hle5)
  clear G1'
  go_wp2_with fail
  refine (HM.out _).mono ?_
  rintro e c3w ⟨rfl, hb2⟩
  have G2' : Hid (GP w c3w 5 te me 0 (.slice a 0 cap) v2 (N1 ++ ST)) := G2.out.later hb2
  clear hb2 G2 r0 r1 r2 r3 r4 hbk
  go_wp2_with (at_builtin; refine wpList_append_s _ rfl _ _ rfl (w.heap.size + 1) _ (N1 ++ ST) SM rfl G2'.out.2.1 rfl (by have := G2'.out.size; omega) (by simp only [ByteArray.size_append]; omega) ?_; intro v3 u3w hrow5 hB5 hk5 hat5 hle5; have G3 : Hid (GP w u3w 5 te me 0 (.slice a 0 cap) v3 (N1 ++ ST ++ SM)) := GP.grow G2'.out hrow5 hB5; have r0 : u3w.cell? ⟨w.heap.size, 0, none⟩ = some (.int .i64 5) := G3.out.1.cell 0; have r1 : u3w.cell? ⟨w.heap.size, 1, none⟩ = some (.string te) := G3.out.1.cell 1; have r2 : u3w.cell? ⟨w.heap.size, 2, none⟩ = some (.string me) := G3.out.1.cell 2; have r3 : u3w.cell? ⟨w.heap.size, 3, none⟩ = some (.int .i64 0) := G3.out.1.cell 3; have r4 : u3w.cell? ⟨w.heap.size, 4, none⟩ = some (.slice a 0 cap) := G3.out.1.cell 4; have hbk := back_s G3.out.2.1; clear hrow5 hB5 hk5 hat5 hle5)
  clear G2'
  skip
  have BW : Hid (Below w.heap.size w u3w) := G3.out.2.2
  go_wp2
  go_ret2
  exact ⟨HRS.out _ _ E.out, BW.out⟩

set_option maxRecDepth 100000 in
set_option maxHeartbeats 8000000 in
theorem bytes6_any (te me : ByteArray) (nu : Int) (xs : List SmpD) (a : Option Addr) (cap : Nat) (w : World) (V : ByteArray) (B : Bool) (HOK : Hid (rqOK ⟨6, te, me, nu, xs⟩ → V = rqX ⟨6, te, me, nu, xs⟩ ∧ B = true)) (HNO : Hid (¬ rqOK ⟨6, te, me, nu, xs⟩ → V = ByteArray.empty ∧ B = false)) (hf : SmpsIn w a xs) (hz : te.size ≤ 1048576 ∧ me.size ≤ 1048576 ∧ xs.length ≤ 1048576 ∧ smpsBulk xs ≤ 1048576) (hnu : -9223372036854775808 ≤ nu ∧ nu ≤ 9223372036854775807) (hbi : ∀ i (h : i < xs.length), -9223372036854775808 ≤ xs[i].bits ∧ xs[i].bits ≤ 9223372036854775807) :
    Calls Tryd.prog 15 #[.agg #[.int .i64 6, .string te, .string me, .int .i64 nu, .slice a xs.length cap]] w fun e w' => e = .returned (.tuple #[.string V, .bool B]) ∧ Below w.heap.size w w' := by
  have HRS : Hid (∀ (v : ByteArray) (b : Bool), V = v ∧ B = b → (Ending.returned (.tuple #[.string v, .bool b])) = Ending.returned (.tuple #[.string V, .bool B])) := fun v b h => by rw [h.1, h.2]
  have HBT : Hid (∀ W, Calls Tryd.prog 31 #[.int .i64 6, .int .i64 1, .int .i64 6] W fun e w' => e = .returned (.bool true) ∧ w' = W) := fun W => between_any 6 1 6 W
  by_cases hme : me.size = 0
  rotate_left
  · have E : Hid (V = ByteArray.empty ∧ B = false) := HNO.out fun h => hme (h.2.2.1 rfl)
    have hmeb : (me.toList == []) = false := by rw [bemptyR]; exact decide_eq_false hme
    have hmec : me.toList.isEmpty = false := by simpa using hmeb
    clear hf hbi
    go_enter Tryd.func15, Tryd.ntmps15
    go_wp2_with fail
    refine (HBT.out _).mono ?_
    rintro e wx ⟨rfl, hw⟩
    replace hw := hw.symm
    subst hw
    go_wp2
    go_ret2
    exact ⟨HRS.out _ _ E.out, bnew _ _⟩
  have hmeb : (me.toList == []) = true := by rw [bemptyR]; exact decide_eq_true hme
  have hmec : me.toList.isEmpty = true := by simpa using hmeb
  by_cases hnu0 : nu = 0
  rotate_left
  · have E : Hid (V = ByteArray.empty ∧ B = false) := HNO.out fun h => hnu0 (h.2.2.2.1 rfl)
    have hnu0b : (nu == 0) = false := by simp [hnu0]
    clear hf hbi
    go_enter Tryd.func15, Tryd.ntmps15
    go_wp2_with fail
    refine (HBT.out _).mono ?_
    rintro e wx ⟨rfl, hw⟩
    replace hw := hw.symm
    subst hw
    go_wp2
    go_ret2
    exact ⟨HRS.out _ _ E.out, bnew _ _⟩
  have hnu0b : (nu == 0) = true := by simp [hnu0]
  by_cases hxs : xs.length = 0
  rotate_left
  · have E : Hid (V = ByteArray.empty ∧ B = false) := HNO.out fun h => hxs (List.length_eq_zero_iff.2 (h.2.2.2.2.1 (show ¬ (6 : Int) = 1 by decide)))
    have hxsb : ((xs.length : Nat) : Int) ≠ 0 := by omega
    have hxsc : (((xs.length : Nat) : Int) == 0) = false := by first | (rw [hxs]; rfl) | (apply Bool.eq_false_iff.2; intro h; have h2 := eq_of_beq h; omega)
    clear hf hbi
    go_enter Tryd.func15, Tryd.ntmps15
    go_wp2_with fail
    refine (HBT.out _).mono ?_
    rintro e wx ⟨rfl, hw⟩
    replace hw := hw.symm
    subst hw
    go_wp2
    go_ret2
    exact ⟨HRS.out _ _ E.out, bnew _ _⟩
  have hxsb : ((xs.length : Nat) : Int) = 0 := by omega
  have hxsc : (((xs.length : Nat) : Int) == 0) = true := by first | (rw [hxs]; rfl) | (apply Bool.eq_false_iff.2; intro h; have h2 := eq_of_beq h; omega)
  by_cases htb : te.size ≤ 255
  rotate_left
  · have E : Hid (V = ByteArray.empty ∧ B = false) := HNO.out fun h => htb (h.2.2.2.2.2.1)
    have htbb : ((te.size : Int) > 255) := by omega
    clear hf hbi
    go_enter Tryd.func15, Tryd.ntmps15
    go_wp2_with fail
    refine (HBT.out _).mono ?_
    rintro e wx ⟨rfl, hw⟩
    replace hw := hw.symm
    subst hw
    go_wp2
    go_ret2
    exact ⟨HRS.out _ _ E.out, bnew _ _⟩
  have htbb : ¬ ((te.size : Int) > 255) := by omega
  have hmb : ¬ ((me.size : Int) > 65535) := by omega
  have hxb : ¬ ((xs.length : Int) > 500) := by omega
  have HU : Hid (∀ W, Calls Tryd.prog 32 #[.int .i64 1, .int .i64 6] W fun e w' => e = .returned (.string (numS 1 6)) ∧ Below W.heap.size W w') := fun W => specNum_any 1 6 W (by omega) (by omega) (by omega)
  have z1 := numS_size 1 6
  have HT : Hid (∀ W, Calls Tryd.prog 33 #[.string te] W fun e w' => e = .returned (.string (s8B te)) ∧ Below W.heap.size W w') := fun W => specS8_any te W (by omega)
  have zt := s8B_size te
  have hx0 : xs = [] := List.length_eq_zero_iff.1 hxs
  clear hxs hxsb hxsc hxb
  subst hx0
  clear hnu0b
  subst hnu0
  show Calls _ _ #[.agg #[.int .i64 6, .string te, .string me, .int .i64 0, .slice a 0 cap]] w _
  have E0 := HOK.out ⟨⟨show (1 : Int) ≤ 6 by decide, show (6 : Int) ≤ 6 by decide⟩, fun h => absurd (show tnK 6 = false from h) (by decide), fun _ => hme, fun _ => rfl, fun _ => rfl, by simp only; omega, by simp only; omega, by simp, fun i hi => absurd hi (by simp)⟩
  rw [rqX6] at E0
  generalize numS 1 6 = N1 at *
  generalize s8B te = ST at *
  have E : Hid (V = N1 ++ ST ∧ B = true) := E0
  clear E0 hf hbi HOK HNO
  obtain ⟨CV, CN, hcv, hcn⟩ := conv_fun N1 (by omega)
  have HCN : Hid (∀ w, RowS (CN w) w.heap.size (CV w) N1 ∧ Below w.heap.size w (CN w)) := hcn
  clear hcn
  go_enter Tryd.func15, Tryd.ntmps15
  go_wp2_with fail
  refine (HBT.out _).mono ?_
  rintro e wx ⟨rfl, hw⟩
  replace hw := hw.symm
  subst hw
  go_wp2_with fail
  refine (HU.out _).mono ?_
  rintro e w1 ⟨rfl, hb1⟩
  have G1 : Hid (GP w (CN w1) 6 te me 0 (.slice a 0 cap) (CV w1) N1) := by
    have hs : w.heap.size + 1 ≤ w1.heap.size := by have := hb1.size; simpa using this
    exact ⟨((Blk.new _ _ _).later hb1).later (HCN.out w1).2, (HCN.out w1).1.mono hs, bto (bto (bnew _ _) hb1) (HCN.out w1).2⟩
  clear hb1
  go_upto_region 11 with fail
  generalize CN w1 = W1 at *
  generalize CV w1 = v1 at *
  clear hcv HCN
  have r0 : W1.cell? ⟨w.heap.size, 0, none⟩ = some (.int .i64 6) := G1.out.1.cell 0; have r1 : W1.cell? ⟨w.heap.size, 1, none⟩ = some (.string te) := G1.out.1.cell 1; have r2 : W1.cell? ⟨w.heap.size, 2, none⟩ = some (.string me) := G1.out.1.cell 2; have r3 : W1.cell? ⟨w.heap.size, 3, none⟩ = some (.int .i64 0) := G1.out.1.cell 3; have r4 : W1.cell? ⟨w.heap.size, 4, none⟩ = some (.slice a 0 cap) := G1.out.1.cell 4
  go_wp2_with fail
  refine (HT.out _).mono ?_
  rintro e c2w ⟨rfl, hb2⟩
  have G1' : Hid (GP w c2w 6 te me 0 (.slice a 0 cap) v1 (N1)) := G1.out.later hb2
  clear hb2 G1 r0 r1 r2 r3 r4
  go_wp2_with (at_builtin; refine wpList_append_s _ rfl _ _ rfl (w.heap.size + 1) _ (N1) ST rfl G1'.out.2.1 rfl (by have := G1'.out.size; omega) (by omega) ?_; intro v2 u2w hrow5 hB5 hk5 hat5 hle5; have G2 : Hid (GP w u2w 6 te me 0 (.slice a 0 cap) v2 (N1 ++ ST)) := GP.grow G1'.out hrow5 hB5; have r0 : u2w.cell? ⟨w.heap.size, 0, none⟩ = some (.int .i64 6) := G2.out.1.cell 0; have r1 : u2w.cell? ⟨w.heap.size, 1, none⟩ = some (.string te) := G2.out.1.cell 1; have r2 : u2w.cell? ⟨w.heap.size, 2, none⟩ = some (.string me) := G2.out.1.cell 2; have r3 : u2w.cell? ⟨w.heap.size, 3, none⟩ = some (.int .i64 0) := G2.out.1.cell 3; have r4 : u2w.cell? ⟨w.heap.size, 4, none⟩ = some (.slice a 0 cap) := G2.out.1.cell 4; have hbk := back_s G2.out.2.1; clear hrow5 hB5 hk5 hat5 hle5)
  clear G1'
  skip
  have BW : Hid (Below w.heap.size w u2w) := G2.out.2.2
  go_wp2
  go_ret2
  exact ⟨HRS.out _ _ E.out, BW.out⟩
end Go.Proofs.YtoecnlhnfhongaaDoor

