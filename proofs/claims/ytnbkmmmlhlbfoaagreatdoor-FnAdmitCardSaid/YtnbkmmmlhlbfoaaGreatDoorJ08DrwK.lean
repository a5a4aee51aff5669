import Derived.Test.YtnbkmmmlhlbfoaaGreatDoorProg
import Derived.Test.YtnbkmmmlhlbfoaaGreatDoorJ06Win
import Derived.Test.YtnbkmmmlhlbfoaaGreatDoorJ03INum
import Derived.Laws.StructEq
import Derived.Shelf.SlicesE.Equal
import Derived.Test.YtnbkmmmlhlbfoaaGreatDoorJ07DrwL
namespace Go.Proofs.YtnbkmmmlhlbfoaaGreatDoor
open Go.RowKit Go.Lib
def numsOf (s : ByteArray) : List Int := s.data.toList.map fun b => (b.toNat : Int)
def repN (zs : List Int) : Nat → List Int
  | 0 => []
  | k + 1 => repN zs k ++ zs
theorem repN_length (zs : List Int) (k : Nat) : (repN zs k).length = k * zs.length := by
  induction k with
  | zero => simp [repN]
  | succ k ih => rw [repN, List.length_append, ih, Nat.succ_mul]
def timesB (s : ByteArray) (n : Nat) : ByteArray := strOfNums (repN (numsOf s) n)
theorem timesB_size (s : ByteArray) (n : Nat) : (timesB s n).size = n * s.size := by
  rw [timesB, strOfNums_len, repN_length, numsOf, List.length_map, bsize]
set_option maxRecDepth 100000 in
set_option maxHeartbeats 1000000 in
theorem timesX_any (s : ByteArray) (n : Nat) (w : World) (hs : s.size ≤ 4) (hn : n ≤ 200) :
    Calls Tryz.prog 38 #[.string s, .int .i64 (n : Nat)] w fun e w' => e = .returned (.string (timesB s n)) ∧ Below w.heap.size w w' := by
  obtain ⟨ti, hti, hz0, hz1, hz2⟩ := info_u8
  have HI : Hid (Tryz.prog.info? 5 = some ti) := hti
  clear hti
  have hzs : strCells s = (numsOf s).map (Value.int .u8) := by simp [strCells, numsOf]
  have hzl : (numsOf s).length = s.size := by rw [numsOf, List.length_map, bsize]
  have HT : Hid (timesB s n = strOfNums (repN (numsOf s) n)) := hid rfl
  rw [HT.out]
  clear HT
  have hrl := repN_length (numsOf s)
  rw [hzl] at hrl
  have HZ : Hid (strCells s = (numsOf s).map (Value.int .u8) ∧ (numsOf s).length = s.size) := ⟨hzs, hzl⟩
  clear hzs hzl
  generalize numsOf s = zs at *
  have HRL := hid hrl
  clear hrl
  go_enter Tryz.func38, Tryz.ntmps38
  go_wp2
  go_loopw [5, 6] (fun out i wr => ∃ (k : Nat) (av : Option Addr) (cv : Nat), k ≤ n ∧ i = .int .i64 (k : Nat) ∧ out = .slice av (repN zs k).length cv ∧ Hid (wr.ownsRow w.heap.size 5 1 (.slice av (repN zs k).length cv) (repN zs k).length ((repN zs k).map (Value.int .u8))) ∧ Below w.heap.size w wr) (fun _ i _ => n - (RowKit.intOf i).toNat)
  case atStart =>
    exact ⟨0, _, _, by omega, rfl, rfl, World.ownsRow_made w #[] 0 (Nat.le_refl _) (by simp [maxLen]) (by simp), bnew _ _⟩
  case round =>
    obtain ⟨k, av, cv, hk, rfl, rfl, HROW, hbel⟩ := hrel
    have hsz := hbel.size
    have hrk := HRL.out k
    have hks : k * s.size ≤ 200 * 4 := Nat.mul_le_mul (by omega) hs
    by_cases hkn : k < n
    · have hkn' : (k : Int) < (n : Int) := by omega
      have HRS : Hid (repN zs (k + 1) = repN zs k ++ zs) := hid rfl
      generalize repN zs k = ys at *
      go_wp2_with (at_builtin; refine wpList_append_own_string _ rfl _ _ _ _ rfl w.heap.size 5 ti Tryz.underlying22 Tryz.underlying9 HI.out hz0 hz1 hz2 (.slice av ys.length cv) ys.length (ys.map (Value.int .u8)) rfl (by exact HROW.out) s rfl (by simp [maxLen]; omega) (by omega) (by omega) ?_; intro v5 w5 hown5 hgrow5 hat5)
      obtain ⟨a5, c5, rfl⟩ := row_form0 hown5
      have hB5 : Below w.heap.size w w5 := hbel.grown hgrow5 (by omega) (fun q hq => row_from HROW.out q hq)
      rw [HZ.out.1, ← List.map_append] at hown5
      have hle : (ys ++ zs).length = ys.length + s.size := by rw [List.length_append, HZ.out.2]
      rw [← hle] at hown5
      refine ⟨⟨k + 1, a5, c5, by omega, by go_num, by rw [HRS.out, hle], by rw [HRS.out]; exact hown5, hB5⟩, by simp [RowKit.intOf]; omega⟩
    · have hkn' : ¬ ((k : Int) < (n : Int)) := by omega
      have hke : k = n := by omega
      subst hke
      clear hrk hks
      have hcv := conv_row HROW.out
      go_wp2
      go_ret
      exact ⟨rfl, hbel⟩
end Go.Proofs.YtnbkmmmlhlbfoaaGreatDoor
namespace Go.Proofs.YtnbkmmmlhlbfoaaGreatDoor
open Go.RowKit
theorem specS8_any (s : ByteArray) (w : World) (hs : s.size ≤ 1000000000) :
    Calls Tryz.prog 69 #[.string s] w fun e w' => e = .returned (.string (s8B s)) ∧ Below w.heap.size w w' := by
  have HC : Hid (∀ W, Calls Tryz.prog 68 #[.int .i64 1, .int .i64 (s.size : Nat)] W fun e w' => e = .returned (.string (numS 1 (s.size : Nat))) ∧ Below W.heap.size W w') := fun W => specNum_any 1 (s.size : Nat) W (by omega) (by omega) (by omega)
  have hz := numS_size 1 (s.size : Nat)
  unfold s8B
  generalize numS 1 (s.size : Nat) = N at *
  go_enter Tryz.func69, Tryz.ntmps69
  go_wp2_with fail
  refine (HC.out _).mono ?_
  rintro e w1 ⟨rfl, hb1⟩
  have HB : Hid (Below w.heap.size w w1) := hb1
  clear hb1
  go_wp2
  go_ret
  exact ⟨rfl, HB.out⟩
theorem specS16_any (s : ByteArray) (w : World) (hs : s.size ≤ 1000000000) :
    Calls Tryz.prog 70 #[.string s] w fun e w' => e = .returned (.string (s16B s)) ∧ Below w.heap.size w w' := by
  have HC : Hid (∀ W, Calls Tryz.prog 68 #[.int .i64 2, .int .i64 (s.size : Nat)] W fun e w' => e = .returned (.string (numS 2 (s.size : Nat))) ∧ Below W.heap.size W w') := fun W => specNum_any 2 (s.size : Nat) W (by omega) (by omega) (by omega)
  have hz := numS_size 2 (s.size : Nat)
  unfold s16B
  generalize numS 2 (s.size : Nat) = N at *
  go_enter Tryz.func70, Tryz.ntmps70
  go_wp2_with fail
  refine (HC.out _).mono ?_
  rintro e w1 ⟨rfl, hb1⟩
  have HB : Hid (Below w.heap.size w w1) := hb1
  clear hb1
  go_wp2
  go_ret
  exact ⟨rfl, HB.out⟩
end Go.Proofs.YtnbkmmmlhlbfoaaGreatDoor
namespace Go.Proofs.YtnbkmmmlhlbfoaaGreatDoor
open Go.RowKit
theorem neqL : NeqAt Tryz.prog 83 (fun x : LabD => .agg #[.string x.name, .string x.value]) eqLabB := by
  refine ⟨fun x y w => ?_, GuardAt.agg _ (by kernel_rfl)⟩
  have u3 := Tryz.underlying9
  have a3 := Tryz.isAgg9
  have z3 := Tryz.sizeOf9
  have hS : Tryz.prog.underlying 83 = some (.struct (Tryz.prog.fieldsOf 83)) := by kernel_rfl
  have hp : Tryz.prog.stoodInHeld 83 = false := by kernel_rfl
  rw [run_neq_struct, show (10000 : Nat) = 9999 + 1 from rfl, run_equalIn_agg w 9999 83 _ _ hS hp]
  simp only [Program.fieldsOf, Tryz.underlying83]
  go_simp
  by_cases h1 : x.name.toList = y.name.toList <;> by_cases h2 : x.value.toList = y.value.toList <;> simp [eqLabB, h1, h2]
end Go.Proofs.YtnbkmmmlhlbfoaaGreatDoor
namespace Go.Proofs.YtnbkmmmlhlbfoaaGreatDoor
open Go.RowKit
set_option maxRecDepth 100000 in
set_option maxHeartbeats 1000000 in
theorem l3Same_any (a a' : Option Addr) (cap cap' : Nat) (xs ys : List LabD) (w : World) (hf : LabsIn w a xs) (hf' : LabsIn w a' ys) (hx : xs.length ≤ 2000000) :
    Calls Tryz.prog 67 #[.slice a xs.length cap, .slice a' ys.length cap'] w fun e w' => e = .returned (.bool (sameLs xs ys)) ∧ Below w.heap.size w w' := by
  have HF : Hid (LabsIn w a xs) := hf
  have HF' : Hid (LabsIn w a' ys) := hf'
  clear hf hf'
  by_cases hl : xs.length = ys.length
  · have hlb : ((xs.length : Int) != (ys.length : Int)) = false := by simp [hl]
    have HL : Hid (xs.length = ys.length) := hl
    have hyx : ys.length ≤ xs.length ∧ xs.length ≤ ys.length := by omega
    obtain ⟨hyx1, hyx2⟩ := hyx
    clear hl
    go_enter Tryz.func67, Tryz.ntmps67
    go_wp2
    go_loopw [5, 13] (fun _ i wr => ∃ k : Nat, k ≤ xs.length ∧ i = .int .i64 k ∧ Hid (sameLs xs ys = sameLs (xs.drop k) (ys.drop k)) ∧ Below w.heap.size w wr) (fun _ i _ => xs.length - (intOf i).toNat)
    case atStart => exact ⟨0, Nat.zero_le _, rfl, rfl, Below.refl _ _⟩
    case round =>
      obtain ⟨k, hk, rfl, HK, hbel⟩ := hrel
      by_cases hlt : k < xs.length
      · have hlt' : k < ys.length := by omega
        obtain ⟨b, o, rfl, hb, c0, c1⟩ := (HF.out.later hbel).at hlt
        obtain ⟨b', o', rfl, hb', c0', c1'⟩ := (HF'.out.later hbel).at hlt'
        have HS := sameLs_drop xs ys k hlt hlt'
        have hne0 : ∀ W, Sem.run Tryz.prog (binOp .neq 83 (.agg #[.string xs[k].name, .string xs[k].value]) (.agg #[.string ys[k].name, .string ys[k].value])) W = .ok (.bool (!eqLabB xs[k] ys[k])) W := fun W => neqL.1 xs[k] ys[k] W
        have hgd0 : ∀ (op : BinOp) (p q : Operand) (W : World), Sem.run Tryz.prog (eqGuard op 83 p q (.agg #[.string xs[k].name, .string xs[k].value]) (.agg #[.string ys[k].name, .string ys[k].value])) W = .ok () W := fun op p q W => neqL.2 op p q xs[k] ys[k] W
        have d0 := Later.cells c0
        have d1 := Later.cells c1
        have d0' := Later.cells c0'
        have d1' := Later.cells c1'
        clear c0 c1 c0' c1'
        have hne := Later.there wr
        cases he : eqLabB xs[k] ys[k] with
        | true =>
          have E : Hid (sameLs xs ys = sameLs (xs.drop (k + 1)) (ys.drop (k + 1))) := by show _ = _; rw [HK.out, HS, he, Bool.true_and]
          rw [he] at hne0
          clear HS he
          generalize xs[k].name = n1 at *
          generalize xs[k].value = v1 at *
          generalize ys[k].name = n2 at *
          generalize ys[k].value = v2 at *
          go_wp2_with fail
          refine wp_region_later (by kernel_rfl) (by kernel_rfl) ?_
          repeat (go_big_quiet_step (fail))
          refine wpQuiet_nil ?_
          rintro _ ⟨x, rfl⟩
          have HX : Hid (Below w.heap.size w x.w') := bto hbel x.h
          clear d0 d1 d0' d1' hne
          generalize x.w' = W2 at *
          clear x
          go_wp2
          exact ⟨⟨k + 1, by omega, by go_num, E.out, HX.out⟩, by simp [intOf]; omega⟩
        | false =>
          have E : Hid (sameLs xs ys = false) := by show _ = _; rw [HK.out, HS, he, Bool.false_and]
          rw [he] at hne0
          clear HS he
          generalize xs[k].name = n1 at *
          generalize xs[k].value = v1 at *
          generalize ys[k].name = n2 at *
          generalize ys[k].value = v2 at *
          go_wp2_with fail
          refine wp_region_later (by kernel_rfl) (by kernel_rfl) ?_
          repeat (go_big_quiet_step (fail))
          refine wpQuiet_nil ?_
          rintro _ ⟨x, rfl⟩
          have HX : Hid (Below w.heap.size w x.w') := bto hbel x.h
          clear d0 d1 d0' d1' hne
          generalize x.w' = W2 at *
          clear x
          go_wp2
          go_ret
          exact ⟨ret_bool E.out.symm, HX.out⟩
      · have E : Hid (sameLs xs ys = true) := by
          show _ = _
          rw [HK.out, List.drop_of_length_le (by omega), List.drop_of_length_le (by omega)]; rfl
        go_wp2
        go_ret
        exact ⟨ret_bool E.out.symm, hbel⟩
  · have hlb : ((xs.length : Int) != (ys.length : Int)) = true := by simp; omega
    have E : Hid (sameLs xs ys = false) := sameLs_len hl
    go_enter Tryz.func67, Tryz.ntmps67
    go_wp2
    go_ret
    exact ⟨ret_bool E.out.symm, Below.refl _ _⟩
set_option maxRecDepth 100000 in
set_option maxHeartbeats 1000000 in
theorem specKey_any (a : Option Addr) (cap : Nat) (ls : List LabD) (w : World) (hf : LabsIn w a ls) (hB : BigS ls) (hlen : ls.length ≤ 2000000) (hcap : ls.length ≤ cap) :
    Calls Tryz.prog 40 #[.slice a ls.length cap] w fun e w' => e = .returned (.string (keyV ls)) ∧ Below w.heap.size w w' := by
  have HC : Hid (Calls Tryz.prog 66 #[.slice a ls.length cap] w fun e w' => CanonOut e w w' (canonR ls).1 (canonR ls).2.1 (canonR ls).2.2) := specCanon_any a cap ls w hf hB hlen hcap
  have HF : Hid (LabsIn w a ls) := hf
  have HB : Hid (BigS ls) := hB
  have hcl := canon_len0 ls
  unfold CanonOut at HC
  clear hf hB
  by_cases h0 : (canonR ls).2.1 = 0
  · have h0b : (((canonR ls).2.1 : Int) != 0) = false := by simp; omega
    have HSM : Hid (∀ W af cf, LabsIn W af (canonR ls).1 → LabsIn W a ls → Calls Tryz.prog 67 #[.slice af (canonR ls).1.length cf, .slice a ls.length cap] W fun e w' => e = .returned (.bool (sameLs (canonR ls).1 ls)) ∧ Below W.heap.size W w') := fun W af cf h1 h2 => l3Same_any af a cf cap _ ls W h1 h2 (by omega)
    by_cases hs : sameLs (canonR ls).1 ls = true
    · have hcan : canB ls = true := by unfold canB; rw [h0, hs]; rfl
      have E : Hid (keyV ls = keyB ls) := by show _ = _; rw [keyV, if_pos hcan]
      have h16 := can_le hcan
      have HNU : Hid (∀ W, Calls Tryz.prog 68 #[.int .i64 1, .int .i64 (ls.length : Nat)] W fun e w' => e = .returned (.string (numS 1 (ls.length : Nat))) ∧ Below W.heap.size W w') := fun W => specNum_any 1 (ls.length : Nat) W (by omega) (by omega) (by omega)
      have hz1 := numS_size 1 (ls.length : Nat)
      have HKB : Hid (keyB ls = numS 1 (ls.length : Nat) ++ tailB ls) := rfl
      have HSS : Hid (sameLs (canonR ls).1 ls = true) := hs
      clear h0 hs hcan
      generalize (canonR ls).1 = C at *
      generalize (canonR ls).2.1 = c1 at *
      generalize (canonR ls).2.2 = c2 at *
      generalize numS 1 (ls.length : Nat) = NB at *
      go_enter Tryz.func40, Tryz.ntmps40
      go_wp2_with fail
      refine HC.out.mono ?_
      rintro e w1 ⟨af, cf, rfl, hof, hb1⟩
      have B1 : Hid (Below w.heap.size w w1) := hb1
      have O1 : Hid (LabsIn w1 af C ∧ LabsIn w1 a ls) := ⟨hof.labs, HF.out.later hb1⟩
      clear hof hb1 HC
      go_wp2_with fail
      refine (HSM.out _ _ _ O1.out.1 O1.out.2).mono ?_
      rintro e w2 ⟨rfl, hb2⟩
      rw [HSS.out]
      have B2 : Hid (Below w.heap.size w w2) := bto B1.out hb2
      clear hb2 O1 B1
      go_wp2_with fail
      refine (HNU.out _).mono ?_
      rintro e w3 ⟨rfl, hb3⟩
      have B3 : Hid (Below w.heap.size w w3) := bto B2.out hb3
      clear hb3 B2
      go_wp2
      go_loopw [6, 8, 28] (fun out _ i wr => ∃ (k : Nat) (st : ByteArray), k ≤ ls.length ∧ i = .int .i64 k ∧ out = .string st ∧ st.size ≤ 1 + k * 3000000000 ∧ Hid (st = NB ++ tailB (ls.take k)) ∧ Below w.heap.size w wr) (fun _ _ i _ => ls.length - (intOf i).toNat)
      case atStart => exact ⟨0, NB, Nat.zero_le _, rfl, rfl, by omega, by show _ = _; simp [tailB], B3.out⟩
      case round =>
        obtain ⟨k, st, hk, rfl, rfl, hst, HST, hbel⟩ := hrel
        by_cases hlt : k < ls.length
        · obtain ⟨b, o, rfl, hb, c0, c1⟩ := (HF.out.later hbel).at hlt
          obtain ⟨hs1, hs2⟩ := HB.out k hlt
          have HS8 : Hid (∀ W, Calls Tryz.prog 69 #[.string ls[k].name] W fun e w' => e = .returned (.string (s8B ls[k].name)) ∧ Below W.heap.size W w') := fun W => specS8_any ls[k].name W hs1
          have HS16 : Hid (∀ W, Calls Tryz.prog 70 #[.string ls[k].value] W fun e w' => e = .returned (.string (s16B ls[k].value)) ∧ Below W.heap.size W w') := fun W => specS16_any ls[k].value W hs2
          have hz8 := s8B_size ls[k].name
          have hz16 := s16B_size ls[k].value
          have HT := tailB_take ls k hlt
          have E2 : Hid (st ++ (s8B ls[k].name ++ s16B ls[k].value) = NB ++ tailB (ls.take (k + 1))) := by show _ = _; rw [HT, HST.out, ByteArray.append_assoc]
          clear HT
          generalize s8B ls[k].name = S8 at *
          generalize s16B ls[k].value = S16 at *
          generalize ls[k].name = nm at *
          generalize ls[k].value = va at *
          have hz816 : (S8 ++ S16).size = S8.size + S16.size := ByteArray.size_append
          have hzst : (st ++ (S8 ++ S16)).size = st.size + (S8.size + S16.size) := by rw [ByteArray.size_append, hz816]
          have d0 : ∀ x : Later (wr.alloc (.cells #[.string nm, .string va] 83)), x.w'.cell? ⟨wr.heap.size, 0, none⟩ = some (.string nm) := Later.cells (by simp)
          have d1 : ∀ x : Later (wr.alloc (.cells #[.string nm, .string va] 83)), x.w'.cell? ⟨wr.heap.size, 1, none⟩ = some (.string va) := Later.cells (by simp)
          have hne := Later.there (wr.alloc (.cells #[.string nm, .string va] 83))
          have hnb : ¬ b = wr.heap.size := by omega
          go_wp2_with fail
          refine wp_region_later (by kernel_rfl) (by kernel_rfl) ?_
          repeat (go_big_quiet_step (first | (go_at_call 69; exact calls_later (HS8.out _)) | (go_at_call 70; exact calls_later (HS16.out _))))
          refine wpQuiet_nil ?_
          rintro _ ⟨x, rfl⟩
          have HX : Hid (Below w.heap.size w x.w') := bto (bto hbel (bnew _ _)) x.h
          clear d0 d1 hne
          generalize x.w' = W2 at *
          clear x
          go_wp2
          exact ⟨⟨k + 1, st ++ (S8 ++ S16), by omega, by go_num, rfl, by omega, E2.out, HX.out⟩, by simp [intOf]; omega⟩
        · have E2 : Hid (st = keyV ls) := by
            show _ = _
            rw [E.out, HKB.out, HST.out, List.take_of_length_le (by omega)]
          go_wp2
          go_ret
          exact ⟨by rw [← E2.out]; rfl, hbel⟩
    · have hs' : sameLs (canonR ls).1 ls = false := by simpa using hs
      have E : Hid (keyV ls = ByteArray.empty) := by
        show _ = _
        rw [keyV, if_neg]
        unfold canB
        rw [hs', Bool.and_false]
        simp
      have HSS : Hid (sameLs (canonR ls).1 ls = false) := hs'
      clear h0 hs hs'
      generalize (canonR ls).1 = C at *
      generalize (canonR ls).2.1 = c1 at *
      generalize (canonR ls).2.2 = c2 at *
      go_enter Tryz.func40, Tryz.ntmps40
      go_wp2_with fail
      refine HC.out.mono ?_
      rintro e w1 ⟨af, cf, rfl, hof, hb1⟩
      have B1 : Hid (Below w.heap.size w w1) := hb1
      have O1 : Hid (LabsIn w1 af C ∧ LabsIn w1 a ls) := ⟨hof.labs, HF.out.later hb1⟩
      clear hof hb1 HC
      go_wp2_with fail
      refine (HSM.out _ _ _ O1.out.1 O1.out.2).mono ?_
      rintro e w2 ⟨rfl, hb2⟩
      rw [HSS.out]
      have B2 : Hid (Below w.heap.size w w2) := bto B1.out hb2
      clear hb2 O1 B1
      go_wp2
      go_ret
      exact ⟨by rw [E.out]; rfl, B2.out⟩
  · have h0b : (((canonR ls).2.1 : Int) != 0) = true := by simp; omega
    have E : Hid (keyV ls = ByteArray.empty) := by
      show _ = _
      rw [keyV, if_neg]
      unfold canB
      rw [decide_eq_false h0]
      simp
    clear h0
    generalize (canonR ls).1 = C at *
    generalize (canonR ls).2.1 = c1 at *
    generalize (canonR ls).2.2 = c2 at *
    go_enter Tryz.func40, Tryz.ntmps40
    go_wp2_with fail
    refine HC.out.mono ?_
    rintro e w1 ⟨af, cf, rfl, hof, hb1⟩
    have B1 : Hid (Below w.heap.size w w1) := hb1
    clear hof hb1 HC
    go_wp2
    go_ret
    exact ⟨by rw [E.out]; rfl, B1.out⟩
end Go.Proofs.YtnbkmmmlhlbfoaaGreatDoor
namespace Go.Proofs.YtnbkmmmlhlbfoaaGreatDoor
open Go.RowKit
theorem firstBad_nil : ∀ (ls : List LabD) (i : Nat), firstBad ls i = none ↔ ∀ l ∈ ls, labV l = 0
  | [], i => by simp [firstBad]
  | l :: r, i => by
    rw [firstBad]
    by_cases h : labV l = 0
    · rw [if_pos h, firstBad_nil r (i + 1)]
      simp [h]
    · rw [if_neg h]
      simp [h]
theorem firstBad_code : ∀ (ls : List LabD) (i c k : Nat), firstBad ls i = some (c, k) → c ≠ 0
  | [], i, c, k, h => by simp [firstBad] at h
  | l :: r, i, c, k, h => by
    rw [firstBad] at h
    by_cases hz : labV l = 0
    · rw [if_pos hz] at h; exact firstBad_code r _ c k h
    · rw [if_neg hz] at h
      simp only [Option.some.injEq, Prod.mk.injEq] at h
      omega
theorem firstTw_is : ∀ (r seen : List LabD) (i : Nat), NoTw (seen ++ r) → firstTw seen r i = none
  | [], _, _, _ => by simp [firstTw]
  | l :: r, seen, i, h => by
    rw [firstTw]
    have hn : ¬ seen.any (fun x => sameN x l) = true := by
      intro ha
      rw [List.any_eq_true] at ha
      obtain ⟨x, hx, e⟩ := ha
      unfold NoTw at h
      rw [List.pairwise_append] at h
      exact h.2.2 x hx l (by simp) ((sameN_iff _ _).1 e)
    rw [if_neg hn]
    exact firstTw_is r _ _ (by simpa using h)
theorem canon_fine {ls : List LabD} (h1 : ls.length ≤ 16) (h2 : ∀ l ∈ ls, labV l = 0) (h3 : NoTw ls) (h4 : metB ls = true) : canonR ls = (insAll [] ls, 0, 0) :=
  canon_ok (by omega) ((firstBad_nil ls 0).2 h2) (firstTw_is ls [] 0 (by simpa using h3)) h4
theorem canon_nil {ls : List LabD} (h : (canonR ls).2.1 = 0) : ls.length ≤ 16 ∧ (∀ l ∈ ls, labV l = 0) ∧ NoTw ls ∧ metB ls = true := by
  by_cases h16 : 16 < ls.length
  · rw [canon_many h16] at h; exact absurd h (by simp)
  · cases hb : firstBad ls 0 with
    | some p =>
      obtain ⟨c, i⟩ := p
      rw [canon_bad h16 hb] at h
      exact absurd h (firstBad_code ls 0 c i hb)
    | none =>
      cases ht : firstTw [] ls 0 with
      | some i => rw [canon_twice h16 hb ht] at h; exact absurd h (by simp)
      | none =>
        cases hm : metB ls with
        | false => rw [canon_met h16 hb ht hm] at h; exact absurd h (by simp)
        | true => exact ⟨by omega, (firstBad_nil ls 0).1 hb, noTw_of ls ht, rfl⟩
end Go.Proofs.YtnbkmmmlhlbfoaaGreatDoor
namespace Go.Proofs.YtnbkmmmlhlbfoaaGreatDoor
open Go.RowKit
def modeX (bs : List Nat) (σ : CSt) : Nat × CSt := (if (pickX bs σ 10).1 = 9 then 2 else if (pickX bs σ 10).1 = 7 ∨ (pickX bs σ 10).1 = 8 then 1 else 0, (pickX bs σ 10).2)
set_option maxRecDepth 100000 in
set_option maxHeartbeats 1000000 in
theorem modeX_any (B P : Nat) (bs : List Nat) (σ : CSt) (w : World) (h : CurX w B P bs σ) (hN : σ.k ≤ 1000000) :
    Calls Tryz.prog 33 #[.pointer (some ⟨B, 0, none⟩)] w fun e w' => e = .returned (.int .i64 ((modeX bs σ).1 : Nat)) ∧ CurX w' B P bs (modeX bs σ).2 ∧ But B w w' := by
  have HP : Hid (Calls Tryz.prog 14 #[.pointer (some ⟨B, 0, none⟩), .int .i64 10] w fun e w' => e = .returned (.int .i64 ((pickX bs σ 10).1 : Nat)) ∧ CurX w' B P bs (pickX bs σ 10).2 ∧ But B w w') := curPickX_any B P bs σ 10 w h (by omega) (by omega)
  clear h
  unfold modeX
  generalize pickX bs σ 10 = R at *
  obtain ⟨v, τ⟩ := R
  simp only at HP ⊢
  by_cases h9 : v = 9
  · subst h9
    rw [if_pos rfl]
    go_enter Tryz.func33, Tryz.ntmps33
    go_wp2_with fail
    refine HP.out.mono ?_
    rintro e w1 ⟨rfl, hc1, hb1⟩
    have H1 : Hid (CurX w1 B P bs τ ∧ But B w w1) := ⟨hc1, hb1⟩
    clear hc1 hb1
    go_wp2
    go_ret
    exact ⟨rfl, H1.out⟩
  · rw [if_neg h9]
    have n9 : ¬ ((v : Int) = 9) := by omega
    by_cases h7 : v = 7
    · subst h7
      rw [if_pos (Or.inl rfl)]
      go_enter Tryz.func33, Tryz.ntmps33
      go_wp2_with fail
      refine HP.out.mono ?_
      rintro e w1 ⟨rfl, hc1, hb1⟩
      have H1 : Hid (CurX w1 B P bs τ ∧ But B w w1) := ⟨hc1, hb1⟩
      clear hc1 hb1
      go_wp2
      go_ret
      exact ⟨rfl, H1.out⟩
    · have n7 : ¬ ((v : Int) = 7) := by omega
      by_cases h8 : v = 8
      · subst h8
        rw [if_pos (Or.inr rfl)]
        go_enter Tryz.func33, Tryz.ntmps33
        go_wp2_with fail
        refine HP.out.mono ?_
        rintro e w1 ⟨rfl, hc1, hb1⟩
        have H1 : Hid (CurX w1 B P bs τ ∧ But B w w1) := ⟨hc1, hb1⟩
        clear hc1 hb1
        go_wp2
        go_ret
        exact ⟨rfl, H1.out⟩
      · have n8 : ¬ ((v : Int) = 8) := by omega
        have b7 : ((v : Int) == 7) = false := by simpa using n7
        have b8 : ((v : Int) == 8) = false := by simpa using n8
        rw [if_neg (by omega)]
        go_enter Tryz.func33, Tryz.ntmps33
        go_wp2_with fail
        refine HP.out.mono ?_
        rintro e w1 ⟨rfl, hc1, hb1⟩
        have H1 : Hid (CurX w1 B P bs τ ∧ But B w w1) := ⟨hc1, hb1⟩
        clear hc1 hb1
        go_wp2
        go_ret
        exact ⟨rfl, H1.out⟩
def keyX (bs : List Nat) (σ : CSt) : ByteArray × CSt := (keyV (canonR (labelsX bs σ).1).1, (labelsX bs σ).2)
theorem sizD_big {ls : List LabD} (h : SizL ls) : BigS ls := fun i hi => by
  have := h ls[i] (List.getElem_mem hi)
  exact ⟨by omega, by omega⟩
theorem canon_no {ls : List LabD} (h : (canonR ls).2.1 ≠ 0) : (canonR ls).1 = [] := by
  unfold canonR at h ⊢
  split
  · rfl
  · rename_i h16
    rw [if_neg h16] at h
    split
    · rfl
    · rename_i hb
      simp only [hb] at h
      split
      · rfl
      · rename_i ht
        simp only [ht] at h
        split
        · rename_i hm
          rw [if_pos hm] at h
          exact absurd rfl h
        · rfl
theorem sizD_form {ls : List LabD} (h : SizL ls) : SizL (canonR ls).1 ∧ (canonR ls).1.length ≤ ls.length := by
  by_cases h0 : (canonR ls).2.1 = 0
  · obtain ⟨h1, h2, h3, h4⟩ := canon_nil h0
    rw [canon_fine h1 h2 h3 h4]
    have hp : (insAll [] ls).Perm (keptL ls) := (insAll_perm ls []).trans (by rw [List.nil_append])
    refine ⟨fun l hl => h l (List.mem_filter.1 (hp.mem_iff.1 hl)).1, ?_⟩
    show (insAll [] ls).length ≤ _
    rw [hp.length_eq]
    exact List.length_filter_le _ _
  · rw [canon_no h0]
    exact ⟨fun l hl => (by cases hl), Nat.zero_le _⟩
set_option maxRecDepth 100000 in
set_option maxHeartbeats 1000000 in
theorem drawCanonX_any (B P : Nat) (bs : List Nat) (σ : CSt) (w : World) (h : CurX w B P bs σ) (hN : σ.k ≤ 100000) :
    Calls Tryz.prog 41 #[.pointer (some ⟨B, 0, none⟩)] w fun e w' => ∃ a cap, e = .returned (.slice a (canonR (labelsX bs σ).1).1.length cap) ∧ (canonR (labelsX bs σ).1).1.length ≤ cap ∧ LabsIn w' a (canonR (labelsX bs σ).1).1 ∧ CurX w' B P bs (labelsX bs σ).2 ∧ But B w w' := by
  have HC : Hid (CurX w B P bs σ) := h
  have hlt := h.lt
  have HL : Hid (∀ W, CurX W B P bs σ → Calls Tryz.prog 71 #[.pointer (some ⟨B, 0, none⟩)] W fun e w' => ∃ g cv, e = .returned (.slice (some ⟨g, 0, none⟩) (labelsX bs σ).1.length cv) ∧ w'.ownsRow W.heap.size 83 2 (.slice (some ⟨g, 0, none⟩) (labelsX bs σ).1.length cv) (labelsX bs σ).1.length (flatL (labelsX bs σ).1) ∧ CurX w' B P bs (labelsX bs σ).2 ∧ But B W w') := fun W h => drawLabelsX_any B P bs σ W h hN
  obtain ⟨hs, hl7, hl1, hk⟩ := labelsX_is bs σ
  have HSL : Hid (SizL (labelsX bs σ).1) := hs
  clear h hs
  generalize labelsX bs σ = R at *
  obtain ⟨ls, τ⟩ := R
  simp only at HL HSL hl7 hl1 hk ⊢
  have HCN : Hid (∀ W g cv, LabsIn W (some ⟨g, 0, none⟩) ls → ls.length ≤ cv → Calls Tryz.prog 66 #[.slice (some ⟨g, 0, none⟩) ls.length cv] W fun e w' => CanonOut2 e W w' (canonR ls).1 (canonR ls).2.1 (canonR ls).2.2) := fun W g cv h hc => specCanon_cap _ cv ls W h (sizD_big HSL.out) (by omega) hc
  unfold CanonOut2 at HCN
  generalize (canonR ls).1 = F at *
  generalize (canonR ls).2.1 = ci at *
  generalize (canonR ls).2.2 = cj at *
  go_enter Tryz.func41, Tryz.ntmps41
  go_wp2_with fail
  refine (HL.out _ HC.out).mono ?_
  rintro e w1 ⟨g1, c1, rfl, hrow, hc1, hb1⟩
  have hcv := (row_cells hrow).1
  have L1 : Hid (LabsIn w1 (some ⟨g1, 0, none⟩) ls) := (labs_of_row hrow).labs
  have H1 : Hid (CurX w1 B P bs τ ∧ But B w w1) := ⟨hc1, hb1⟩
  clear hrow hc1 hb1 HL HC
  go_wp2_with fail
  refine (HCN.out _ g1 c1 L1.out hcv).mono ?_
  rintro e w2 ⟨a2, k2, rfl, hk2, ho2, hb2⟩
  have H2 : Hid (CurX w2 B P bs τ ∧ But B w w2 ∧ LabsIn w2 a2 F) := ⟨H1.out.1.later hb2, H1.out.2.later hb2, ho2.labs⟩
  clear ho2 hb2 H1 HCN L1
  go_wp2
  go_ret
  exact ⟨a2, k2, rfl, hk2, H2.out.2.2, H2.out.1, H2.out.2.1⟩
set_option maxRecDepth 100000 in
set_option maxHeartbeats 1000000 in
theorem drawKeyX_any (B P : Nat) (bs : List Nat) (σ : CSt) (w : World) (h : CurX w B P bs σ) (hN : σ.k ≤ 100000) :
    Calls Tryz.prog 12 #[.pointer (some ⟨B, 0, none⟩)] w fun e w' => e = .returned (.string (keyX bs σ).1) ∧ CurX w' B P bs (keyX bs σ).2 ∧ But B w w' := by
  have HC : Hid (CurX w B P bs σ) := h
  have HL : Hid (∀ W, CurX W B P bs σ → Calls Tryz.prog 41 #[.pointer (some ⟨B, 0, none⟩)] W fun e w' => ∃ a cap, e = .returned (.slice a (canonR (labelsX bs σ).1).1.length cap) ∧ (canonR (labelsX bs σ).1).1.length ≤ cap ∧ LabsIn w' a (canonR (labelsX bs σ).1).1 ∧ CurX w' B P bs (labelsX bs σ).2 ∧ But B W w') := fun W h => drawCanonX_any B P bs σ W h hN
  obtain ⟨hs, hl7, hl1, hk⟩ := labelsX_is bs σ
  obtain ⟨hF, hFl⟩ := sizD_form hs
  have HFS : Hid (SizL (canonR (labelsX bs σ).1).1) := hF
  clear h hs hF
  unfold keyX
  generalize labelsX bs σ = R at *
  obtain ⟨ls, τ⟩ := R
  simp only at HL HFS hl7 hl1 hk hFl ⊢
  have HCN : Hid (∀ W a cv, LabsIn W a (canonR ls).1 → (canonR ls).1.length ≤ cv → Calls Tryz.prog 40 #[.slice a (canonR ls).1.length cv] W fun e w' => e = .returned (.string (keyV (canonR ls).1)) ∧ Below W.heap.size W w') := fun W a cv h hc => specKey_any a cv (canonR ls).1 W h (sizD_big HFS.out) (by omega) hc
  generalize keyV (canonR ls).1 = kv at *
  generalize (canonR ls).1 = F at *
  go_enter Tryz.func12, Tryz.ntmps12
  go_wp2_with fail
  refine (HL.out _ HC.out).mono ?_
  rintro e w1 ⟨a1, c1, rfl, hcv, hlab, hc1, hb1⟩
  have L1 : Hid (LabsIn w1 a1 F) := hlab
  have H1 : Hid (CurX w1 B P bs τ ∧ But B w w1) := ⟨hc1, hb1⟩
  clear hlab hc1 hb1 HL HC
  go_wp2_with fail
  refine (HCN.out _ a1 c1 L1.out hcv).mono ?_
  rintro e w2 ⟨rfl, hb2⟩
  have H2 : Hid (CurX w2 B P bs τ ∧ But B w w2) := ⟨H1.out.1.later hb2, H1.out.2.later hb2⟩
  clear hb2 H1 HCN L1
  go_wp2
  go_ret
  exact ⟨rfl, H2.out⟩
def anyL : List ByteArray := [⟨#[]⟩, ⟨#[65, 99, 109, 101]⟩, ⟨#[97, 32, 98]⟩, timesB ⟨#[113]⟩ 32, timesB ⟨#[113]⟩ 33, ⟨#[110, 101, 119]⟩]
def anyTenX (bs : List Nat) (σ : CSt) : ByteArray × CSt :=
  if (pickX bs σ 10).1 = 9 then (anyL.getD (pickX bs (pickX bs σ 10).2 6).1 ⟨#[]⟩, (pickX bs (pickX bs σ 10).2 6).2) else tenantX bs (pickX bs σ 10).2
set_option maxRecDepth 100000 in
set_option maxHeartbeats 1000000 in
theorem anyTenX_any (B P : Nat) (bs : List Nat) (σ : CSt) (w : World) (h : CurX w B P bs σ) (hN : σ.k ≤ 100000) :
    Calls Tryz.prog 11 #[.pointer (some ⟨B, 0, none⟩)] w fun e w' => e = .returned (.string (anyTenX bs σ).1) ∧ CurX w' B P bs (anyTenX bs σ).2 ∧ But B w w' := by
  have hlt := h.lt
  have HP : Hid (Calls Tryz.prog 14 #[.pointer (some ⟨B, 0, none⟩), .int .i64 10] w fun e w' => e = .returned (.int .i64 ((pickX bs σ 10).1 : Nat)) ∧ CurX w' B P bs (pickX bs σ 10).2 ∧ But B w w') := curPickX_any B P bs σ 10 w h (by omega) (by omega)
  have hk1 := pickX_k bs σ 10
  clear h
  unfold anyTenX
  generalize pickX bs σ 10 = R at *
  obtain ⟨v, τ⟩ := R
  simp only at HP hk1 ⊢
  by_cases h9 : v = 9
  · subst h9
    rw [if_pos rfl]
    have HP2 : Hid (∀ W, CurX W B P bs τ → Calls Tryz.prog 14 #[.pointer (some ⟨B, 0, none⟩), .int .i64 6] W fun e w' => e = .returned (.int .i64 ((pickX bs τ 6).1 : Nat)) ∧ CurX w' B P bs (pickX bs τ 6).2 ∧ But B W w') := fun W h => curPickX_any B P bs τ 6 W h (by omega) (by omega)
    have hv2 := pickX_lt bs τ (n := 6) (by omega)
    generalize pickX bs τ 6 = R2 at *
    obtain ⟨v2, υ⟩ := R2
    simp only at HP2 hv2 ⊢
    obtain ⟨s, hs⟩ : ∃ s, anyL.getD v2 ⟨#[]⟩ = s := ⟨_, rfl⟩
    rw [hs]
    have HS := hid hs
    clear hs
    have HT1 : Hid (∀ W, Calls Tryz.prog 38 #[.string ⟨#[113]⟩, .int .i64 32] W fun e w' => e = .returned (.string (timesB ⟨#[113]⟩ 32)) ∧ Below W.heap.size W w') := fun W => timesX_any ⟨#[113]⟩ 32 W (by decide) (by omega)
    have HT2 : Hid (∀ W, Calls Tryz.prog 38 #[.string ⟨#[113]⟩, .int .i64 33] W fun e w' => e = .returned (.string (timesB ⟨#[113]⟩ 33)) ∧ Below W.heap.size W w') := fun W => timesX_any ⟨#[113]⟩ 33 W (by decide) (by omega)
    have HAL : Hid (anyL = [⟨#[]⟩, ⟨#[65, 99, 109, 101]⟩, ⟨#[97, 32, 98]⟩, timesB ⟨#[113]⟩ 32, timesB ⟨#[113]⟩ 33, ⟨#[110, 101, 119]⟩]) := hid rfl
    generalize timesB ⟨#[113]⟩ 32 = t1 at *
    generalize timesB ⟨#[113]⟩ 33 = t2 at *
    go_enter Tryz.func11, Tryz.ntmps11
    go_wp2_with fail
    refine HP.out.mono ?_
    rintro e w1 ⟨rfl, hc1, hb1⟩
    have H1 : Hid (CurX w1 B P bs τ ∧ But B w w1) := ⟨hc1, hb1⟩
    have hs1 : w.heap.size ≤ w1.heap.size := hb1.size
    clear hc1 hb1 HP
    go_wp2_with fail
    refine (HT1.out _).mono ?_
    rintro e w2 ⟨rfl, hb2⟩
    have H2 : Hid (CurX w2 B P bs τ ∧ But B w w2) := ⟨H1.out.1.later hb2, H1.out.2.later hb2⟩
    have hs2 : w.heap.size ≤ w2.heap.size := by have := hb2.size; omega
    clear hb2 H1 HT1
    go_wp2_with fail
    refine (HT2.out _).mono ?_
    rintro e w3 ⟨rfl, hb3⟩
    have H3 : Hid (CurX w3 B P bs τ ∧ But B w w3) := ⟨H2.out.1.later hb3, H2.out.2.later hb3⟩
    have hs3 : w.heap.size ≤ w3.heap.size := by have := hb3.size; omega
    clear hb3 H2 HT2
    go_wp2_with fail
    have HR : Hid (LitT (w3.alloc (.cells (anyL.map Value.string).toArray 9)) w3.heap.size anyL) := litT_new w3 anyL _
    rw [HAL.out] at HR HS
    simp only [List.map_cons, List.map_nil] at HR
    refine (HP2.out _ (H3.out.1.later (bnew _ _))).mono ?_
    rintro e w4 ⟨rfl, hc4, hb4⟩
    have hcell := (HR.out.but hb4 (by omega)).at (j := v2) (by simpa using hv2)
    rw [HS.out] at hcell
    have H4 : Hid (CurX w4 B P bs υ ∧ But B w w4) := ⟨hc4, (H3.out.2.later (bnew _ _)).trans hb4⟩
    clear hc4 hb4 H3 HR HP2 HS HAL
    have hv' : (v2 : Int) < 6 := by omega
    go_wp2
    go_ret
    exact ⟨rfl, H4.out⟩
  · rw [if_neg h9]
    have n9 : ¬ ((v : Int) = 9) := by omega
    have HTN : Hid (∀ W, CurX W B P bs τ → Calls Tryz.prog 39 #[.pointer (some ⟨B, 0, none⟩)] W fun e w' => e = .returned (.string (tenantX bs τ).1) ∧ CurX w' B P bs (tenantX bs τ).2 ∧ But B W w') := fun W h => drawTenantX_any B P bs τ W h (by omega)
    generalize tenantX bs τ = T at *
    obtain ⟨s, υ⟩ := T
    simp only at HTN ⊢
    go_enter Tryz.func11, Tryz.ntmps11
    go_wp2_with fail
    refine HP.out.mono ?_
    rintro e w1 ⟨rfl, hc1, hb1⟩
    have H1 : Hid (CurX w1 B P bs τ ∧ But B w w1) := ⟨hc1, hb1⟩
    clear hc1 hb1 HP
    go_wp2_with fail
    refine (HTN.out _ H1.out.1).mono ?_
    rintro e w2 ⟨rfl, hc2, hb2⟩
    have H2 : Hid (CurX w2 B P bs υ ∧ But B w w2) := ⟨hc2, H1.out.2.trans hb2⟩
    clear hc2 hb2 H1 HTN
    go_wp2
    go_ret
    exact ⟨rfl, H2.out⟩
end Go.Proofs.YtnbkmmmlhlbfoaaGreatDoor
