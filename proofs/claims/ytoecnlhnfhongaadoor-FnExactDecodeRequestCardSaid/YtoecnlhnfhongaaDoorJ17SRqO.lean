import Derived.Test.YtoecnlhnfhongaaDoorProg
import Derived.Test.YtoecnlhnfhongaaDoorJ03RqD
import Derived.Test.YtoecnlhnfhongaaDoorJ15SS8
import Derived.Test.YtoecnlhnfhongaaDoorJ04AppA
import Derived.Test.YtoecnlhnfhongaaDoorJ08IRqA
import Derived.Test.YtoecnlhnfhongaaDoorJ16SRq
import Derived.Deep.RegionHeld3
import Derived.Deep.DeepCutAuto
namespace Go.Proofs.YtoecnlhnfhongaaDoor
open Go.RowKit

theorem encXs_len : ∀ (xs : List SmpD), (encXs xs).size ≤ 9 * xs.length + 3 * smpsBulk xs
  | [] => by simp [encXs]
  | x :: r => by
    have h := encXs_len r
    have e : (encXs (x :: r)).size = (encX x).size + (encXs r).size := by show (encX x ++ encXs r).size = _; rw [ByteArray.size_append]
    have e2 := encX_size x
    rw [e]
    simp only [smpsBulk, smpBulk, List.length_cons]
    omega
theorem encXs_bulk (xs : List SmpD) (k : Nat) : (encXs (xs.take k)).size ≤ 9 * xs.length + 3 * smpsBulk xs := by
  have h1 := encXs_len (xs.take k)
  have h2 := smpsBulk_take_le xs k
  have h3 : (xs.take k).length ≤ xs.length := by rw [List.length_take]; omega
  omega
set_option linter.unusedVariables false

set_option maxRecDepth 100000 in
set_option maxHeartbeats 8000000 in
theorem bytes1_no0 (te me : ByteArray) (nu : Int) (xs : List SmpD) (a : Option Addr) (cap : Nat) (w : World) (V : ByteArray) (B : Bool) (HOK : Hid (rqOK ⟨1, te, me, nu, xs⟩ → V = rqX ⟨1, te, me, nu, xs⟩ ∧ B = true)) (HNO : Hid (¬ rqOK ⟨1, te, me, nu, xs⟩ → V = ByteArray.empty ∧ B = false)) (hf : SmpsIn w a xs) (hz : te.size ≤ 1048576 ∧ me.size ≤ 1048576 ∧ xs.length ≤ 1048576 ∧ smpsBulk xs ≤ 1048576) (hnu : -9223372036854775808 ≤ nu ∧ nu ≤ 9223372036854775807) (hbi : ∀ i (h : i < xs.length), -9223372036854775808 ≤ xs[i].bits ∧ xs[i].bits ≤ 9223372036854775807)  (hme : ¬ me.size = 0) :
    Calls Tryd.prog 15 #[.agg #[.int .i64 1, .string te, .string me, .int .i64 nu, .slice a xs.length cap]] w fun e w' => e = .returned (.tuple #[.string V, .bool B]) ∧ Below w.heap.size w w' := by
  have HRS : Hid (∀ (v : ByteArray) (b : Bool), V = v ∧ B = b → (Ending.returned (.tuple #[.string v, .bool b])) = Ending.returned (.tuple #[.string V, .bool B])) := fun v b h => by rw [h.1, h.2]
  have HBT : Hid (∀ W, Calls Tryd.prog 31 #[.int .i64 1, .int .i64 1, .int .i64 6] W fun e w' => e = .returned (.bool true) ∧ w' = W) := fun W => between_any 1 1 6 W
  have E : Hid (V = ByteArray.empty ∧ B = false) := HNO.out fun h => hme (h.2.2.1 rfl)
  have hmeb : (me.toList == []) = false := by rw [bemptyR]; exact decide_eq_false hme
  have hmec : me.toList.isEmpty = false := by simpa using hmeb
  clear hf hbi
  go_enter Tryd.func15, Tryd.ntmps15
  go_wp2_with fail
  refine (HBT.out _).mono ?_
  rintro e wx ⟨rfl, hw⟩
  replace hw := hw.symm
  subst hw
  go_wp2
  go_ret2
  exact ⟨HRS.out _ _ E.out, bnew _ _⟩

set_option maxRecDepth 100000 in
set_option maxHeartbeats 8000000 in
theorem bytes1_no1 (te me : ByteArray) (nu : Int) (xs : List SmpD) (a : Option Addr) (cap : Nat) (w : World) (V : ByteArray) (B : Bool) (HOK : Hid (rqOK ⟨1, te, me, nu, xs⟩ → V = rqX ⟨1, te, me, nu, xs⟩ ∧ B = true)) (HNO : Hid (¬ rqOK ⟨1, te, me, nu, xs⟩ → V = ByteArray.empty ∧ B = false)) (hf : SmpsIn w a xs) (hz : te.size ≤ 1048576 ∧ me.size ≤ 1048576 ∧ xs.length ≤ 1048576 ∧ smpsBulk xs ≤ 1048576) (hnu : -9223372036854775808 ≤ nu ∧ nu ≤ 9223372036854775807) (hbi : ∀ i (h : i < xs.length), -9223372036854775808 ≤ xs[i].bits ∧ xs[i].bits ≤ 9223372036854775807) (hme : me.size = 0) (hnu0 : ¬ nu = 0) :
    Calls Tryd.prog 15 #[.agg #[.int .i64 1, .string te, .string me, .int .i64 nu, .slice a xs.length cap]] w fun e w' => e = .returned (.tuple #[.string V, .bool B]) ∧ Below w.heap.size w w' := by
  have HRS : Hid (∀ (v : ByteArray) (b : Bool), V = v ∧ B = b → (Ending.returned (.tuple #[.string v, .bool b])) = Ending.returned (.tuple #[.string V, .bool B])) := fun v b h => by rw [h.1, h.2]
  have HBT : Hid (∀ W, Calls Tryd.prog 31 #[.int .i64 1, .int .i64 1, .int .i64 6] W fun e w' => e = .returned (.bool true) ∧ w' = W) := fun W => between_any 1 1 6 W
  have hmeb : (me.toList == []) = true := by rw [bemptyR]; exact decide_eq_true hme
  have hmec : me.toList.isEmpty = true := by simpa using hmeb
  have E : Hid (V = ByteArray.empty ∧ B = false) := HNO.out fun h => hnu0 (h.2.2.2.1 rfl)
  have hnu0b : (nu == 0) = false := by simp [hnu0]
  clear hf hbi
  go_enter Tryd.func15, Tryd.ntmps15
  go_wp2_with fail
  refine (HBT.out _).mono ?_
  rintro e wx ⟨rfl, hw⟩
  replace hw := hw.symm
  subst hw
  go_wp2
  go_ret2
  exact ⟨HRS.out _ _ E.out, bnew _ _⟩

set_option maxRecDepth 100000 in
set_option maxHeartbeats 8000000 in
theorem bytes1_no2 (te me : ByteArray) (nu : Int) (xs : List SmpD) (a : Option Addr) (cap : Nat) (w : World) (V : ByteArray) (B : Bool) (HOK : Hid (rqOK ⟨1, te, me, nu, xs⟩ → V = rqX ⟨1, te, me, nu, xs⟩ ∧ B = true)) (HNO : Hid (¬ rqOK ⟨1, te, me, nu, xs⟩ → V = ByteArray.empty ∧ B = false)) (hf : SmpsIn w a xs) (hz : te.size ≤ 1048576 ∧ me.size ≤ 1048576 ∧ xs.length ≤ 1048576 ∧ smpsBulk xs ≤ 1048576) (hnu : -9223372036854775808 ≤ nu ∧ nu ≤ 9223372036854775807) (hbi : ∀ i (h : i < xs.length), -9223372036854775808 ≤ xs[i].bits ∧ xs[i].bits ≤ 9223372036854775807) (hme : me.size = 0) (hnu0 : nu = 0) (htb : ¬ te.size ≤ 255) :
    Calls Tryd.prog 15 #[.agg #[.int .i64 1, .string te, .string me, .int .i64 nu, .slice a xs.length cap]] w fun e w' => e = .returned (.tuple #[.string V, .bool B]) ∧ Below w.heap.size w w' := by
  have HRS : Hid (∀ (v : ByteArray) (b : Bool), V = v ∧ B = b → (Ending.returned (.tuple #[.string v, .bool b])) = Ending.returned (.tuple #[.string V, .bool B])) := fun v b h => by rw [h.1, h.2]
  have HBT : Hid (∀ W, Calls Tryd.prog 31 #[.int .i64 1, .int .i64 1, .int .i64 6] W fun e w' => e = .returned (.bool true) ∧ w' = W) := fun W => between_any 1 1 6 W
  have hmeb : (me.toList == []) = true := by rw [bemptyR]; exact decide_eq_true hme
  have hmec : me.toList.isEmpty = true := by simpa using hmeb
  have hnu0b : (nu == 0) = true := by simp [hnu0]
  have E : Hid (V = ByteArray.empty ∧ B = false) := HNO.out fun h => htb (h.2.2.2.2.2.1)
  have htbb : ((te.size : Int) > 255) := by omega
  clear hf hbi
  go_enter Tryd.func15, Tryd.ntmps15
  go_wp2_with fail
  refine (HBT.out _).mono ?_
  rintro e wx ⟨rfl, hw⟩
  replace hw := hw.symm
  subst hw
  go_wp2
  go_ret2
  exact ⟨HRS.out _ _ E.out, bnew _ _⟩

set_option maxRecDepth 100000 in
set_option maxHeartbeats 8000000 in
theorem bytes1_no3 (te me : ByteArray) (nu : Int) (xs : List SmpD) (a : Option Addr) (cap : Nat) (w : World) (V : ByteArray) (B : Bool) (HOK : Hid (rqOK ⟨1, te, me, nu, xs⟩ → V = rqX ⟨1, te, me, nu, xs⟩ ∧ B = true)) (HNO : Hid (¬ rqOK ⟨1, te, me, nu, xs⟩ → V = ByteArray.empty ∧ B = false)) (hf : SmpsIn w a xs) (hz : te.size ≤ 1048576 ∧ me.size ≤ 1048576 ∧ xs.length ≤ 1048576 ∧ smpsBulk xs ≤ 1048576) (hnu : -9223372036854775808 ≤ nu ∧ nu ≤ 9223372036854775807) (hbi : ∀ i (h : i < xs.length), -9223372036854775808 ≤ xs[i].bits ∧ xs[i].bits ≤ 9223372036854775807) (hme : me.size = 0) (hnu0 : nu = 0) (htb : te.size ≤ 255) (hxb : ¬ xs.length ≤ 500) :
    Calls Tryd.prog 15 #[.agg #[.int .i64 1, .string te, .string me, .int .i64 nu, .slice a xs.length cap]] w fun e w' => e = .returned (.tuple #[.string V, .bool B]) ∧ Below w.heap.size w w' := by
  have HRS : Hid (∀ (v : ByteArray) (b : Bool), V = v ∧ B = b → (Ending.returned (.tuple #[.string v, .bool b])) = Ending.returned (.tuple #[.string V, .bool B])) := fun v b h => by rw [h.1, h.2]
  have HBT : Hid (∀ W, Calls Tryd.prog 31 #[.int .i64 1, .int .i64 1, .int .i64 6] W fun e w' => e = .returned (.bool true) ∧ w' = W) := fun W => between_any 1 1 6 W
  have hmeb : (me.toList == []) = true := by rw [bemptyR]; exact decide_eq_true hme
  have hmec : me.toList.isEmpty = true := by simpa using hmeb
  have hnu0b : (nu == 0) = true := by simp [hnu0]
  have htbb : ¬ ((te.size : Int) > 255) := by omega
  have E : Hid (V = ByteArray.empty ∧ B = false) := HNO.out fun h => hxb (h.2.2.2.2.2.2.2.1)
  have hxbb : ((xs.length : Int) > 500) := by omega
  clear hf hbi
  go_enter Tryd.func15, Tryd.ntmps15
  go_wp2_with fail
  refine (HBT.out _).mono ?_
  rintro e wx ⟨rfl, hw⟩
  replace hw := hw.symm
  subst hw
  go_wp2
  go_ret2
  exact ⟨HRS.out _ _ E.out, bnew _ _⟩

set_option maxRecDepth 100000 in
set_option maxHeartbeats 8000000 in
theorem bytes1_go (te me : ByteArray) (nu : Int) (xs : List SmpD) (a : Option Addr) (cap : Nat) (w : World) (V : ByteArray) (B : Bool) (HOK : Hid (rqOK ⟨1, te, me, nu, xs⟩ → V = rqX ⟨1, te, me, nu, xs⟩ ∧ B = true)) (HNO : Hid (¬ rqOK ⟨1, te, me, nu, xs⟩ → V = ByteArray.empty ∧ B = false)) (hf : SmpsIn w a xs) (hz : te.size ≤ 1048576 ∧ me.size ≤ 1048576 ∧ xs.length ≤ 1048576 ∧ smpsBulk xs ≤ 1048576) (hnu : -9223372036854775808 ≤ nu ∧ nu ≤ 9223372036854775807) (hbi : ∀ i (h : i < xs.length), -9223372036854775808 ≤ xs[i].bits ∧ xs[i].bits ≤ 9223372036854775807) (hme : me.size = 0) (hnu0 : nu = 0) (htb : te.size ≤ 255) (hxb : xs.length ≤ 500) :
    Calls Tryd.prog 15 #[.agg #[.int .i64 1, .string te, .string me, .int .i64 nu, .slice a xs.length cap]] w fun e w' => e = .returned (.tuple #[.string V, .bool B]) ∧ Below w.heap.size w w' := by
  have HRS : Hid (∀ (v : ByteArray) (b : Bool), V = v ∧ B = b → (Ending.returned (.tuple #[.string v, .bool b])) = Ending.returned (.tuple #[.string V, .bool B])) := fun v b h => by rw [h.1, h.2]
  have HBT : Hid (∀ W, Calls Tryd.prog 31 #[.int .i64 1, .int .i64 1, .int .i64 6] W fun e w' => e = .returned (.bool true) ∧ w' = W) := fun W => between_any 1 1 6 W
  have hmeb : (me.toList == []) = true := by rw [bemptyR]; exact decide_eq_true hme
  have hmec : me.toList.isEmpty = true := by simpa using hmeb
  have hnu0b : (nu == 0) = true := by simp [hnu0]
  have htbb : ¬ ((te.size : Int) > 255) := by omega
  have hxbb : ¬ ((xs.length : Int) > 500) := by omega
  have hmb : ¬ ((me.size : Int) > 65535) := by omega
  have HU : Hid (∀ W, Calls Tryd.prog 32 #[.int .i64 1, .int .i64 1] W fun e w' => e = .returned (.string (numS 1 1)) ∧ Below W.heap.size W w') := fun W => specNum_any 1 1 W (by omega) (by omega) (by omega)
  have z1 := numS_size 1 1
  have HT : Hid (∀ W, Calls Tryd.prog 33 #[.string te] W fun e w' => e = .returned (.string (s8B te)) ∧ Below W.heap.size W w') := fun W => specS8_any te W (by omega)
  have zt := s8B_size te
  have HC : Hid (∀ W, Calls Tryd.prog 32 #[.int .i64 2, .int .i64 (xs.length : Nat)] W fun e w' => e = .returned (.string (numS 2 (xs.length : Nat))) ∧ Below W.heap.size W w') := fun W => specNum_any 2 _ W (by omega) (by omega) (by omega)
  have zc := numS_size 2 (xs.length : Nat)
  clear hnu0b
  subst hnu0
  have HGO : Hid (allX xs → V = numS 1 1 ++ s8B te ++ numS 2 (xs.length : Nat) ++ encXs xs ∧ B = true) := fun h => by
    have q := HOK.out ⟨⟨show (1 : Int) ≤ 1 by decide, show (1 : Int) ≤ 6 by decide⟩, fun h => absurd (show tnK 1 = false from h) (by decide), fun _ => hme, fun _ => rfl, fun h => absurd rfl h, by simp only; omega, by simp only; omega, by simp only; omega, h⟩
    rw [rqX1] at q
    exact q
  have HNA : Hid (¬ allX xs → V = ByteArray.empty ∧ B = false) := fun h => HNO.out fun hh => h hh.2.2.2.2.2.2.2.2
  generalize numS 1 1 = N1 at *
  generalize s8B te = ST at *
  generalize numS 2 (xs.length : Nat) = SC at *
  have HF : Hid (SmpsIn w a xs) := hf
  have HBI := hid hbi
  clear hf hbi HOK HNO
  obtain ⟨CV, CN, hcv, hcn⟩ := conv_fun N1 (by omega)
  have HCN : Hid (∀ w, RowS (CN w) w.heap.size (CV w) N1 ∧ Below w.heap.size w (CN w)) := hcn
  clear hcn
  go_enter Tryd.func15, Tryd.ntmps15
  go_wp2_with fail
  refine (HBT.out _).mono ?_
  rintro e wx ⟨rfl, hw⟩
  replace hw := hw.symm
  subst hw
  go_wp2_with fail
  refine (HU.out _).mono ?_
  rintro e w1 ⟨rfl, hb1⟩
  have G1 : Hid (GP w (CN w1) 1 te me 0 (.slice a xs.length cap) (CV w1) N1) := by
    have hs : w.heap.size + 1 ≤ w1.heap.size := by have := hb1.size; simpa using this
    exact ⟨((Blk.new _ _ _).later hb1).later (HCN.out w1).2, (HCN.out w1).1.mono hs, bto (bto (bnew _ _) hb1) (HCN.out w1).2⟩
  clear hb1
  go_upto_region 11 with fail
  generalize CN w1 = W1 at *
  generalize CV w1 = v1 at *
  clear hcv HCN
  have r0 : W1.cell? ⟨w.heap.size, 0, none⟩ = some (.int .i64 1) := G1.out.1.cell 0; have r1 : W1.cell? ⟨w.heap.size, 1, none⟩ = some (.string te) := G1.out.1.cell 1; have r2 : W1.cell? ⟨w.heap.size, 2, none⟩ = some (.string me) := G1.out.1.cell 2; have r3 : W1.cell? ⟨w.heap.size, 3, none⟩ = some (.int .i64 0) := G1.out.1.cell 3; have r4 : W1.cell? ⟨w.heap.size, 4, none⟩ = some (.slice a xs.length cap) := G1.out.1.cell 4
  go_upto_region 12 with fail
  go_cut [7] (fun s wx => GP w wx 1 te me 0 (.slice a xs.length cap) s (N1 ++ ST))
  case first =>
    go_wp2_with fail
    refine (HT.out _).mono ?_
    rintro e c2w ⟨rfl, hb2⟩
    have G1' : Hid (GP w c2w 1 te me 0 (.slice a xs.length cap) v1 (N1)) := G1.out.later hb2
    clear hb2 G1 r0 r1 r2 r3 r4
    go_wp2_with (at_builtin; refine wpList_append_s _ rfl _ _ rfl (w.heap.size + 1) _ (N1) ST rfl G1'.out.2.1 rfl (by have := G1'.out.size; omega) (by omega) ?_; intro v2 u2w hrow5 hB5 hk5 hat5 hle5; have G2 : Hid (GP w u2w 1 te me 0 (.slice a xs.length cap) v2 (N1 ++ ST)) := GP.grow G1'.out hrow5 hB5; have r0 : u2w.cell? ⟨w.heap.size, 0, none⟩ = some (.int .i64 1) := G2.out.1.cell 0; have r1 : u2w.cell? ⟨w.heap.size, 1, none⟩ = some (.string te) := G2.out.1.cell 1; have r2 : u2w.cell? ⟨w.heap.size, 2, none⟩ = some (.string me) := G2.out.1.cell 2; have r3 : u2w.cell? ⟨w.heap.size, 3, none⟩ = some (.int .i64 0) := G2.out.1.cell 3; have r4 : u2w.cell? ⟨w.heap.size, 4, none⟩ = some (.slice a xs.length cap) := G2.out.1.cell 4; have hbk := back_s G2.out.2.1; clear hrow5 hB5 hk5 hat5 hle5)
    go_meet
    exact G2.out
  rename World => W2
  have G2 : Hid (GP w W2 1 te me 0 (.slice a xs.length cap) u7 (N1 ++ ST)) := hcut
  have hbk := back_s G2.out.2.1
  clear hcut G1 r0 r1 r2 r3 r4
  have r0 : W2.cell? ⟨w.heap.size, 0, none⟩ = some (.int .i64 1) := G2.out.1.cell 0; have r1 : W2.cell? ⟨w.heap.size, 1, none⟩ = some (.string te) := G2.out.1.cell 1; have r2 : W2.cell? ⟨w.heap.size, 2, none⟩ = some (.string me) := G2.out.1.cell 2; have r3 : W2.cell? ⟨w.heap.size, 3, none⟩ = some (.int .i64 0) := G2.out.1.cell 3; have r4 : W2.cell? ⟨w.heap.size, 4, none⟩ = some (.slice a xs.length cap) := G2.out.1.cell 4
  as_aux_lemma =>
    go_wp2_with fail
    refine (HC.out _).mono ?_
    rintro e c3w ⟨rfl, hb2⟩
    have G2' : Hid (GP w c3w 1 te me 0 (.slice a xs.length cap) u7 (N1 ++ ST)) := G2.out.later hb2
    clear hb2 G2 r0 r1 r2 r3 r4 hbk
    go_wp2_with (at_builtin; refine wpList_append_s _ rfl _ _ rfl (w.heap.size + 1) _ (N1 ++ ST) SC rfl G2'.out.2.1 rfl (by have := G2'.out.size; omega) (by simp only [ByteArray.size_append]; omega) ?_; intro v3 u3w hrow5 hB5 hk5 hat5 hle5; have G3 : Hid (GP w u3w 1 te me 0 (.slice a xs.length cap) v3 (N1 ++ ST ++ SC)) := GP.grow G2'.out hrow5 hB5; have r0 : u3w.cell? ⟨w.heap.size, 0, none⟩ = some (.int .i64 1) := G3.out.1.cell 0; have r1 : u3w.cell? ⟨w.heap.size, 1, none⟩ = some (.string te) := G3.out.1.cell 1; have r2 : u3w.cell? ⟨w.heap.size, 2, none⟩ = some (.string me) := G3.out.1.cell 2; have r3 : u3w.cell? ⟨w.heap.size, 3, none⟩ = some (.int .i64 0) := G3.out.1.cell 3; have r4 : u3w.cell? ⟨w.heap.size, 4, none⟩ = some (.slice a xs.length cap) := G3.out.1.cell 4; have hbk := back_s G3.out.2.1; clear hrow5 hB5 hk5 hat5 hle5)
    clear G2'
    have hst0 : (N1 ++ ST ++ SC).size ≤ 2000000 := by simp only [ByteArray.size_append]; omega
    have HGO2 : Hid (allX xs → V = N1 ++ ST ++ SC ++ encXs xs ∧ B = true) := HGO.out
    clear HGO
    generalize hH : N1 ++ ST ++ SC = H0 at *
    clear hH
    clear hbk
    as_aux_lemma =>
      go_wp2
      go_loopw [7, 138] (fun out i wr => ∃ (k : Nat) (st : ByteArray), k ≤ xs.length ∧ i = .int .i64 k ∧ Hid (st = H0 ++ encXs (xs.take k)) ∧ Hid (∀ j (h : j < xs.length), j < k → smpOK xs[j]) ∧ Hid (GP w wr 1 te me 0 (.slice a xs.length cap) out st)) (fun _ i _ => xs.length - (intOf i).toNat)
      case atStart => exact ⟨0, H0, Nat.zero_le _, rfl, by show _ = _; simp [encXs], fun j _ h => absurd h (by omega), G3.out⟩
      case round =>
        obtain ⟨k, st, hk, rfl, HST, HALL, GL⟩ := hrel
        have hst : st.size ≤ 10000000 := by have := encXs_bulk xs k; rw [HST.out, ByteArray.size_append]; omega
        clear r0 r1 r2 r3 r4 G3
        by_cases hlt : k < xs.length
        · obtain ⟨b, o, a1, q1, rfl, hb, c0', c1', p1⟩ := HF.out.at hlt
          have c0 := (GL.out.2.2.cell (p := ⟨b, o + k * 2, none⟩) hb).trans c0'
          have c1 := (GL.out.2.2.cell (p := ⟨b, o + k * 2 + 1, none⟩) hb).trans c1'
          have hbs := smpBulk_at xs k hlt
          have hbe : smpBulk xs[k] = xs[k].labs.length + labBulk xs[k].labs := rfl
          have hr1 := HBI.out k hlt
          have hsz := GL.out.size
          have hnb : ¬ b = wr.heap.size := by omega
          clear c0' c1'
          by_cases d1 : (xs[k].labs.length : Int) > 255
          · have E : Hid (V = ByteArray.empty ∧ B = false) := HNA.out fun h => by have := (h k hlt).1; omega
            have BW : Hid (Below w.heap.size w wr) := GL.out.2.2
            clear p1 hbs hbe hr1
            as_aux_lemma =>
              go_wp2
              go_ret2
              exact ⟨HRS.out _ _ E.out, bto BW.out (bnew _ _)⟩
          have HLN : Hid (∀ W, Calls Tryd.prog 32 #[.int .i64 1, .int .i64 (xs[k].labs.length : Nat)] W fun e w' => e = .returned (.string (numS 1 (xs[k].labs.length : Nat))) ∧ Below W.heap.size W w') := fun W => specNum_any 1 _ W (by omega) (by omega) (by omega)
          have HB8 : Hid (∀ W, Calls Tryd.prog 32 #[.int .i64 8, .int .i64 xs[k].bits] W fun e w' => e = .returned (.string (numS 8 xs[k].bits)) ∧ Below W.heap.size W w') := fun W => specNum_any 8 _ W (by omega) hr1.1 hr1.2
          have zl := numS_size 1 (xs[k].labs.length : Nat)
          have z8 := numS_size 8 xs[k].bits
          have HPL : Hid (LabsIn w a1 xs[k].labs) := p1
          have HNL : Hid (∀ m (h : m < xs[k].labs.length), ¬ labOK xs[k].labs[m] → V = ByteArray.empty ∧ B = false) := fun m hm hno => HNA.out fun h => hno ((h k hlt).2 m hm)
          have E2 : Hid (st ++ numS 1 (xs[k].labs.length : Nat) ++ tailB xs[k].labs ++ numS 8 xs[k].bits = H0 ++ encXs (xs.take (k + 1))) := by show _ = _; rw [encXs_take xs k hlt, HST.out, encX, keyB]; simp only [ByteArray.append_assoc]
          have HA2 : Hid ((∀ m (h : m < xs[k].labs.length), labOK xs[k].labs[m]) → ∀ j (h : j < xs.length), j < k + 1 → smpOK xs[j]) := fun hh j h hj => by
            rcases Nat.lt_or_ge j k with h1 | h1
            · exact HALL.out j h h1
            · obtain rfl : j = k := by omega
              exact ⟨by omega, hh⟩
          clear p1 HALL HST hr1
          generalize numS 1 (xs[k].labs.length : Nat) = SL at *
          generalize numS 8 xs[k].bits = S8 at *
          generalize xs[k].labs = ls at *
          generalize xs[k].bits = bi at *
          have hll : ls.length ≤ 255 := by omega
          have hlb : labBulk ls ≤ 1048576 := by omega
          obtain ⟨gv, hgv, hgv1, hgv2⟩ := GL.out.2.1.lt
          have HNB : Hid (u7.ownBlock ≠ some wr.heap.size) := by show _ ≠ _; rw [hgv]; intro e; have := Option.some.inj e; omega
          have GX : Hid (GP w (wr.alloc (.cells #[.slice a1 ls.length q1, .int .i64 bi] 54)) 1 te me 0 (.slice (some ⟨b, o, none⟩) xs.length cap) u7 (st) ∧ Blk (wr.alloc (.cells #[.slice a1 ls.length q1, .int .i64 bi] 54)) wr.heap.size #[.slice a1 ls.length q1, .int .i64 bi] 54) := ⟨GL.out.later (bnew _ _), heap_alloc_new _ _⟩
          clear hgv hgv1 hgv2 gv GL hbs hbe
          as_aux_lemma =>
            go_wp2_with fail
            refine (HLN.out _).mono ?_
            rintro e W ⟨rfl, hbW⟩
            have GW : Hid (GP w W 1 te me 0 (.slice (some ⟨b, o, none⟩) xs.length cap) u7 (st) ∧ Blk W wr.heap.size #[.slice a1 ls.length q1, .int .i64 bi] 54) := ⟨GX.out.1.later hbW, GX.out.2.later hbW⟩
            have hBXW : wr.heap.size < W.heap.size := lt_of_block GW.out.2
            have hBXs : w.heap.size + 1 ≤ wr.heap.size := hsz
            clear GX hbW HLN c0 c1 hnb hsz
            generalize wr.heap.size = BX at *
            clear wr
            go_wp2_with (at_builtin; refine wpList_append_s _ rfl _ _ rfl (w.heap.size + 1) _ st SL rfl GW.out.1.2.1 rfl (by have := GW.out.1.size; omega) (by omega) ?_; intro v5 w5 hrow5 hB5 hk5 hat5 hle5; have HO5 : Hid (GP w w5 1 te me 0 (.slice (some ⟨b, o, none⟩) xs.length cap) v5 (st ++ SL) ∧ v5.ownBlock ≠ some BX ∧ Blk w5 BX #[.slice a1 ls.length q1, .int .i64 bi] 54) := ⟨GP.grow GW.out.1 hrow5 hB5, ne_blockR HNB.out hat5 hBXW, (hk5 BX hBXW HNB.out).trans GW.out.2⟩; have y0 : w5.cell? ⟨BX, 0, none⟩ = some (.slice a1 ls.length q1) := HO5.out.2.2.cell 0; clear hrow5 hB5 hk5 hat5 hle5)
            have hst1 : (st ++ SL).size ≤ 10000001 := by rw [ByteArray.size_append]; omega
            clear GW HNB hBXW hst
            generalize st ++ SL = st1 at *
            as_aux_lemma =>
              go_loopw [7, 155] (fun out j wr => ∃ (m : Nat) (st2 : ByteArray), m ≤ ls.length ∧ j = .int .i64 m ∧ Hid (st2 = st1 ++ tailB (ls.take m)) ∧ Hid (∀ i (h : i < ls.length), i < m → labOK ls[i]) ∧ Hid (GP w wr 1 te me 0 (.slice (some ⟨b, o, none⟩) xs.length cap) out (st2) ∧ out.ownBlock ≠ some BX ∧ Blk wr BX #[.slice a1 ls.length q1, .int .i64 bi] 54)) (fun _ j _ => ls.length - (intOf j).toNat)
              case atStart => exact ⟨0, st1, Nat.zero_le _, rfl, by show _ = _; simp [tailB], fun i _ h => absurd h (by omega), HO5.out⟩
              case round =>
                obtain ⟨m, st2, hm, rfl, HST2, HAL2, HROW⟩ := hrel
                have hst2 : st2.size ≤ 20000000 := by have h1 := tailB_size (ls.take m); have h2 := labBulk_take_le ls m; rw [List.length_take] at h1; rw [HST2.out, ByteArray.size_append]; omega
                clear HO5 y0
                by_cases hlt2 : m < ls.length
                · obtain ⟨b2, o2, rfl, hb2, f0', f1'⟩ := HPL.out.at hlt2
                  have f0 := (HROW.out.1.2.2.cell (p := ⟨b2, o2 + m * 2, none⟩) hb2).trans f0'
                  have f1 := (HROW.out.1.2.2.cell (p := ⟨b2, o2 + m * 2 + 1, none⟩) hb2).trans f1'
                  have hsz := HROW.out.1.size
                  have hnb : ¬ b2 = wr.heap.size := by omega
                  have hli := lab_in ls m hlt2
                  clear f0' f1'
                  by_cases ok1 : ls[m].name.size ≤ 255
                  rotate_left
                  · have E : Hid (V = ByteArray.empty ∧ B = false) := HNL.out m hlt2 fun h => ok1 h.1
                    have g1 : (ls[m].name.size : Int) > 255 := by omega
                    have BW : Hid (Below w.heap.size w wr) := HROW.out.1.2.2
                    clear HAL2 hli
                    generalize ls[m].name = nm at *
                    generalize ls[m].value = va at *
                    as_aux_lemma =>
                      go_wp2
                      go_ret2
                      exact ⟨HRS.out _ _ E.out, bto BW.out (bnew _ _)⟩
                  have g1 : ¬ (ls[m].name.size : Int) > 255 := by omega
                  by_cases ok2 : ls[m].value.size ≤ 65535
                  rotate_left
                  · have E : Hid (V = ByteArray.empty ∧ B = false) := HNL.out m hlt2 fun h => ok2 h.2
                    have g2 : (ls[m].value.size : Int) > 65535 := by omega
                    have BW : Hid (Below w.heap.size w wr) := HROW.out.1.2.2
                    clear HAL2 hli
                    generalize ls[m].name = nm at *
                    generalize ls[m].value = va at *
                    as_aux_lemma =>
                      go_wp2
                      go_ret2
                      exact ⟨HRS.out _ _ E.out, bto BW.out (bnew _ _)⟩
                  have g2 : ¬ (ls[m].value.size : Int) > 65535 := by omega
                  have HS8 : Hid (∀ W, Calls Tryd.prog 33 #[.string ls[m].name] W fun e w' => e = .returned (.string (s8B ls[m].name)) ∧ Below W.heap.size W w') := fun W => specS8_any ls[m].name W (by omega)
                  have HS16 : Hid (∀ W, Calls Tryd.prog 34 #[.string ls[m].value] W fun e w' => e = .returned (.string (s16B ls[m].value)) ∧ Below W.heap.size W w') := fun W => specS16_any ls[m].value W (by omega)
                  have hs3 := s8B_size ls[m].name
                  have hs4 := s16B_size ls[m].value
                  have HB2 : Hid (∀ i (h : i < ls.length), i < m + 1 → labOK ls[i]) := fun i h hj => by
                    rcases Nat.lt_or_ge i m with h1 | h1
                    · exact HAL2.out i h h1
                    · obtain rfl : i = m := by omega
                      exact ⟨ok1, ok2⟩
                  have E3 : Hid (st2 ++ (s8B ls[m].name ++ s16B ls[m].value) = st1 ++ tailB (ls.take (m + 1))) := by show _ = _; rw [tailB_take ls m hlt2, HST2.out]; simp only [ByteArray.append_assoc]
                  clear HAL2 HST2
                  generalize s8B ls[m].name = U3 at *
                  generalize s16B ls[m].value = U4 at *
                  generalize ls[m].name = nm at *
                  generalize ls[m].value = va at *
                  have m1 : ¬ (9223372036854775807 < U3.size + U4.size) := by omega
                  have HQ2 : Hid (U3.size = 1 + nm.size ∧ U4.size = 2 + va.size) := ⟨hs3, hs4⟩
                  have hBW : BX < wr.heap.size := lt_of_block HROW.out.2.2
                  obtain ⟨gv, hgv, hgv1, hgv2⟩ := HROW.out.1.2.1.lt
                  have HNB : Hid (u7.ownBlock ≠ some wr.heap.size) := by show _ ≠ _; rw [hgv]; intro e; have := Option.some.inj e; omega
                  have HBX : Hid (Blk (wr.alloc (.cells #[.string nm, .string va] 56)) wr.heap.size #[.string nm, .string va] 56) := heap_alloc_new _ _
                  have HR2 : Hid (GP w (wr.alloc (.cells #[.string nm, .string va] 56)) 1 te me 0 (.slice (some ⟨b, o, none⟩) xs.length cap) u7 (st2) ∧ u7.ownBlock ≠ some BX ∧ Blk (wr.alloc (.cells #[.string nm, .string va] 56)) BX #[.slice (some ⟨b2, o2, none⟩) ls.length q1, .int .i64 bi] 54) := ⟨HROW.out.1.later (bnew _ _), HROW.out.2.1, HROW.out.2.2.later (bnew _ _)⟩
                  clear hs3 hs4 hgv hgv1 hgv2 gv
                  as_aux_lemma =>
                    go_upto_region 31 with fail
                    generalize wr.alloc (.cells #[.string nm, .string va] 56) = W at *
                    have x0 : W.cell? ⟨wr.heap.size, 0, none⟩ = some (.string nm) := HBX.out.cell 0
                    have x1 : W.cell? ⟨wr.heap.size, 1, none⟩ = some (.string va) := HBX.out.cell 1
                    have hBX2 : wr.heap.size < W.heap.size := lt_of_block HBX.out
                    have hBXW : BX < W.heap.size := lt_of_block HR2.out.2.2
                    have hww : w.heap.size + 1 ≤ W.heap.size := HR2.out.1.size
                    clear HROW HBX hnb hb2 f0 f1 hsz hBW
                    generalize wr.heap.size = BY at *
                    clear wr
                    have HKX : Hid (∀ w', Below W.heap.size W w' → w'.cell? ⟨BY, 0, none⟩ = some (.string nm) ∧ w'.cell? ⟨BY, 1, none⟩ = some (.string va)) := fun w' h => ⟨(h.cell hBX2).trans x0, (h.cell hBX2).trans x1⟩
                    go_region_held3 (fun w' => w'.cell? ⟨BY, 0, none⟩ = some (.string nm) ∧ w'.cell? ⟨BY, 1, none⟩ = some (.string va))
                      (first
                        | go_keep
                        | exact hkx5
                        | exact HKX.out _ hc2
                        | exact HKX.out _ hc1)
                      ((first
                        | (go_at_call 33; refine (HS8.out _).mono ?_; rintro e w1 ⟨rfl, hb1⟩; have hc1 : Below W.heap.size W w1 := (Below.refl _ W).drew.trans hb1)
                        | (go_at_call 34; refine (HS16.out _).mono ?_; rintro e w2 ⟨rfl, hb2⟩; have hc2 : Below W.heap.size W w2 := hc1.trans (hb2.mono hc1.size))
                        | (have q := hc2; clear q; refine step_append_s2 _ (by rfl) _ _ (by rfl) (w.heap.size + 1) _ st2 (U3 ++ U4) (by rfl) (by exact HR2.out.1.2.1.later hc2) (by rfl) (by have := hc2.size; omega) (by have := HQ2.out; rw [ByteArray.size_append]; omega) ?_; intro v5 w5 hrow5 hB5 hk5 hat5 hle5; have hblk5 : w5.heap[BX]? = w2.heap[BX]? := hk5 BX (by have := hc2.size; omega) HR2.out.2.1; have hbly5 : w5.heap[BY]? = w2.heap[BY]? := hk5 BY (by have := hc2.size; omega) HNB.out; have hkx5 : w5.cell? ⟨BY, 0, none⟩ = some (.string nm) ∧ w5.cell? ⟨BY, 1, none⟩ = some (.string va) := (by have q := HKX.out _ hc2; exact ⟨(World.cell?_of_block hbly5).trans q.1, (World.cell?_of_block hbly5).trans q.2⟩); have hG5 := GP.grow (HR2.out.1.later hc2) hrow5 hB5)))
                    have HO6 : Hid (GP w w5 1 te me 0 (.slice (some ⟨b, o, none⟩) xs.length cap) v5 (st2 ++ (U3 ++ U4)) ∧ v5.ownBlock ≠ some BX ∧ Blk w5 BX #[.slice (some ⟨b2, o2, none⟩) ls.length q1, .int .i64 bi] 54) := ⟨hG5, ne_blockR HR2.out.2.1 hat5 (by have := hc2.size; omega), hblk5.trans (HR2.out.2.2.later hc2)⟩
                    clear hrow5 hB5 hG5 hk5 hkx5 hat5 hle5 hblk5 hbly5 m1 hst2
                    generalize st2 ++ (U3 ++ U4) = st5 at *
                    go_wp2
                    exact ⟨⟨m + 1, st5, by omega, by go_num, E3.out, HB2.out, HO6.out⟩, by simp [intOf]; omega⟩
                · have E3 : Hid (st2 ++ S8 = H0 ++ encXs (xs.take (k + 1))) := by show _ = _; rw [← E2.out, HST2.out, List.take_of_length_le (by omega)]
                  have HA3 : Hid (∀ j (h : j < xs.length), j < k + 1 → smpOK xs[j]) := HA2.out fun i hi => HAL2.out i hi (by omega)
                  have y1 : wr.cell? ⟨BX, 1, none⟩ = some (.int .i64 bi) := HROW.out.2.2.cell 1
                  have hm2 : m ≤ 255 := by omega
                  clear HAL2 HST2 HA2 E2
                  as_aux_lemma =>
                    go_wp2_with fail
                    refine (HB8.out _).mono ?_
                    rintro e w4 ⟨rfl, hb4⟩
                    have HR4 : Hid (GP w w4 1 te me 0 (.slice (some ⟨b, o, none⟩) xs.length cap) u7 (st2)) := HROW.out.1.later hb4
                    clear hb4 HROW y1
                    go_wp2_with (at_builtin; refine wpList_append_s _ rfl _ _ rfl (w.heap.size + 1) _ st2 S8 rfl HR4.out.2.1 rfl (by have := HR4.out.size; omega) (by omega) ?_; intro v5 w5 hrow5 hB5 hk5 hat5 hle5; have HO7 : Hid (GP w w5 1 te me 0 (.slice (some ⟨b, o, none⟩) xs.length cap) v5 (st2 ++ S8)) := GP.grow HR4.out hrow5 hB5; clear hrow5 hB5 hk5 hat5 hle5)
                    clear HR4 hst2
                    generalize st2 ++ S8 = st7 at *
                    exact ⟨⟨k + 1, st7, by omega, by go_num, E3.out, HA3.out, HO7.out⟩, by simp [intOf]; omega⟩
        · have E : Hid (V = st ∧ B = true) := by
            have h := HGO2.out fun j hj => HALL.out j hj (by omega)
            refine ⟨?_, h.2⟩
            rw [h.1, HST.out, List.take_of_length_le (by omega)]
          have hbk := back_s GL.out.2.1
          have BW : Hid (Below w.heap.size w wr) := GL.out.2.2
          clear HALL HST GL
          as_aux_lemma =>
            go_wp2
            go_ret2
            exact ⟨HRS.out _ _ E.out, BW.out⟩

set_option maxRecDepth 100000 in
set_option maxHeartbeats 8000000 in
theorem bytes1_any (te me : ByteArray) (nu : Int) (xs : List SmpD) (a : Option Addr) (cap : Nat) (w : World) (V : ByteArray) (B : Bool) (HOK : Hid (rqOK ⟨1, te, me, nu, xs⟩ → V = rqX ⟨1, te, me, nu, xs⟩ ∧ B = true)) (HNO : Hid (¬ rqOK ⟨1, te, me, nu, xs⟩ → V = ByteArray.empty ∧ B = false)) (hf : SmpsIn w a xs) (hz : te.size ≤ 1048576 ∧ me.size ≤ 1048576 ∧ xs.length ≤ 1048576 ∧ smpsBulk xs ≤ 1048576) (hnu : -9223372036854775808 ≤ nu ∧ nu ≤ 9223372036854775807) (hbi : ∀ i (h : i < xs.length), -9223372036854775808 ≤ xs[i].bits ∧ xs[i].bits ≤ 9223372036854775807) :
    Calls Tryd.prog 15 #[.agg #[.int .i64 1, .string te, .string me, .int .i64 nu, .slice a xs.length cap]] w fun e w' => e = .returned (.tuple #[.string V, .bool B]) ∧ Below w.heap.size w w' := by
  have HRS : Hid (∀ (v : ByteArray) (b : Bool), V = v ∧ B = b → (Ending.returned (.tuple #[.string v, .bool b])) = Ending.returned (.tuple #[.string V, .bool B])) := fun v b h => by rw [h.1, h.2]
  have HBT : Hid (∀ W, Calls Tryd.prog 31 #[.int .i64 1, .int .i64 1, .int .i64 6] W fun e w' => e = .returned (.bool true) ∧ w' = W) := fun W => between_any 1 1 6 W
  clear HRS HBT
  by_cases hme : me.size = 0
  · by_cases hnu0 : nu = 0
    · by_cases htb : te.size ≤ 255
      · by_cases hxb : xs.length ≤ 500
        · exact bytes1_go te me nu xs a cap w V B HOK HNO hf hz hnu hbi hme hnu0 htb hxb
        · exact bytes1_no3 te me nu xs a cap w V B HOK HNO hf hz hnu hbi hme hnu0 htb hxb
      · exact bytes1_no2 te me nu xs a cap w V B HOK HNO hf hz hnu hbi hme hnu0 htb
    · exact bytes1_no1 te me nu xs a cap w V B HOK HNO hf hz hnu hbi hme hnu0
  · exact bytes1_no0 te me nu xs a cap w V B HOK HNO hf hz hnu hbi hme
end Go.Proofs.YtoecnlhnfhongaaDoor

