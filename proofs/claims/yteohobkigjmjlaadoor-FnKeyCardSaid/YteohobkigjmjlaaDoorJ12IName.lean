import Derived.Test.YteohobkigjmjlaaDoorProg
import Derived.Test.YteohobkigjmjlaaDoorJ05IRd
import Derived.Test.YteohobkigjmjlaaDoorJ11NeqL
import Derived.Test.YteohobkigjmjlaaDoorJ09SCanon
import Derived.Test.YteohobkigjmjlaaDoorJ06SName
import Derived.WalkMore
namespace Go.Proofs.YteohobkigjmjlaaDoor
open Go.RowKit

set_option maxRecDepth 100000 in
set_option maxHeartbeats 1000000 in
theorem l3Same_any (a a' : Option Addr) (cap cap' : Nat) (xs ys : List LabD) (w : World) (hf : LabsIn w a xs) (hf' : LabsIn w a' ys) (hx : xs.length ≤ 2000000) :
    Calls Tryd.prog 34 #[.slice a xs.length cap, .slice a' ys.length cap'] w fun e w' => e = .returned (.bool (sameLs xs ys)) ∧ Below w.heap.size w w' := by
  have HF : Hid (LabsIn w a xs) := hf
  have HF' : Hid (LabsIn w a' ys) := hf'
  clear hf hf'
  by_cases hl : xs.length = ys.length
  · have hlb : ((xs.length : Int) != (ys.length : Int)) = false := by simp [hl]
    have HL : Hid (xs.length = ys.length) := hl
    have hyx : ys.length ≤ xs.length ∧ xs.length ≤ ys.length := by omega
    obtain ⟨hyx1, hyx2⟩ := hyx
    clear hl
    go_enter Tryd.func34, Tryd.ntmps34
    go_wp2
    go_loopw [5, 13] (fun _ i wr => ∃ k : Nat, k ≤ xs.length ∧ i = .int .i64 k ∧ Hid (sameLs xs ys = sameLs (xs.drop k) (ys.drop k)) ∧ Below w.heap.size w wr) (fun _ i _ => xs.length - (intOf i).toNat)
    case atStart => exact ⟨0, Nat.zero_le _, rfl, rfl, Below.refl _ _⟩
    case round =>
      obtain ⟨k, hk, rfl, HK, hbel⟩ := hrel
      by_cases hlt : k < xs.length
      · have hlt' : k < ys.length := by omega
        obtain ⟨b, o, rfl, hb, c0, c1⟩ := (HF.out.later hbel).at hlt
        obtain ⟨b', o', rfl, hb', c0', c1'⟩ := (HF'.out.later hbel).at hlt'
        have HS := sameLs_drop xs ys k hlt hlt'
        have hne0 : ∀ W, Sem.run Tryd.prog (binOp .neq 40 (.agg #[.string xs[k].name, .string xs[k].value]) (.agg #[.string ys[k].name, .string ys[k].value])) W = .ok (.bool (!eqLabB xs[k] ys[k])) W := fun W => neqL.1 xs[k] ys[k] W
        have hgd0 : ∀ (op : BinOp) (p q : Operand) (W : World), Sem.run Tryd.prog (eqGuard op 40 p q (.agg #[.string xs[k].name, .string xs[k].value]) (.agg #[.string ys[k].name, .string ys[k].value])) W = .ok () W := fun op p q W => neqL.2 op p q xs[k] ys[k] W
        have d0 := Later.cells c0
        have d1 := Later.cells c1
        have d0' := Later.cells c0'
        have d1' := Later.cells c1'
        clear c0 c1 c0' c1'
        have hne := Later.there wr
        cases he : eqLabB xs[k] ys[k] with
        | true =>
          have E : Hid (sameLs xs ys = sameLs (xs.drop (k + 1)) (ys.drop (k + 1))) := by show _ = _; rw [HK.out, HS, he, Bool.true_and]
          rw [he] at hne0
          clear HS he
          generalize xs[k].name = n1 at *
          generalize xs[k].value = v1 at *
          generalize ys[k].name = n2 at *
          generalize ys[k].value = v2 at *
          go_wp2_with fail
          refine wp_region_later (by kernel_rfl) (by kernel_rfl) ?_
          repeat (go_big_quiet_step (fail))
          refine wpQuiet_nil ?_
          rintro _ ⟨x, rfl⟩
          have HX : Hid (Below w.heap.size w x.w') := bto hbel x.h
          clear d0 d1 d0' d1' hne
          generalize x.w' = W2 at *
          clear x
          go_wp2
          exact ⟨⟨k + 1, by omega, by go_num, E.out, HX.out⟩, by simp [intOf]; omega⟩
        | false =>
          have E : Hid (sameLs xs ys = false) := by show _ = _; rw [HK.out, HS, he, Bool.false_and]
          rw [he] at hne0
          clear HS he
          generalize xs[k].name = n1 at *
          generalize xs[k].value = v1 at *
          generalize ys[k].name = n2 at *
          generalize ys[k].value = v2 at *
          go_wp2_with fail
          refine wp_region_later (by kernel_rfl) (by kernel_rfl) ?_
          repeat (go_big_quiet_step (fail))
          refine wpQuiet_nil ?_
          rintro _ ⟨x, rfl⟩
          have HX : Hid (Below w.heap.size w x.w') := bto hbel x.h
          clear d0 d1 d0' d1' hne
          generalize x.w' = W2 at *
          clear x
          go_wp2
          go_ret
          exact ⟨ret_bool E.out.symm, HX.out⟩
      · have E : Hid (sameLs xs ys = true) := by
          show _ = _
          rw [HK.out, List.drop_of_length_le (by omega), List.drop_of_length_le (by omega)]; rfl
        go_wp2
        go_ret
        exact ⟨ret_bool E.out.symm, hbel⟩
  · have hlb : ((xs.length : Int) != (ys.length : Int)) = true := by simp; omega
    have E : Hid (sameLs xs ys = false) := sameLs_len hl
    go_enter Tryd.func34, Tryd.ntmps34
    go_wp2
    go_ret
    exact ⟨ret_bool E.out.symm, Below.refl _ _⟩

set_option maxRecDepth 100000 in
set_option maxHeartbeats 1000000 in
theorem specKey_any (a : Option Addr) (cap : Nat) (ls : List LabD) (w : World) (hf : LabsIn w a ls) (hB : BigS ls) (hlen : ls.length ≤ 2000000) (hcap : ls.length ≤ cap) :
    Calls Tryd.prog 15 #[.slice a ls.length cap] w fun e w' => e = .returned (.string (keyV ls)) ∧ Below w.heap.size w w' := by
  have HC : Hid (Calls Tryd.prog 9 #[.slice a ls.length cap] w fun e w' => CanonOut e w w' (canonR ls).1 (canonR ls).2.1 (canonR ls).2.2) := specCanon_any a cap ls w hf hB hlen hcap
  have HF : Hid (LabsIn w a ls) := hf
  have HB : Hid (BigS ls) := hB
  have hcl := canon_len0 ls
  unfold CanonOut at HC
  clear hf hB
  by_cases h0 : (canonR ls).2.1 = 0
  · have h0b : (((canonR ls).2.1 : Int) != 0) = false := by simp; omega
    have HSM : Hid (∀ W af cf, LabsIn W af (canonR ls).1 → LabsIn W a ls → Calls Tryd.prog 34 #[.slice af (canonR ls).1.length cf, .slice a ls.length cap] W fun e w' => e = .returned (.bool (sameLs (canonR ls).1 ls)) ∧ Below W.heap.size W w') := fun W af cf h1 h2 => l3Same_any af a cf cap _ ls W h1 h2 (by omega)
    by_cases hs : sameLs (canonR ls).1 ls = true
    · have hcan : canB ls = true := by unfold canB; rw [h0, hs]; rfl
      have E : Hid (keyV ls = keyB ls) := by show _ = _; rw [keyV, if_pos hcan]
      have h16 := can_le hcan
      have HNU : Hid (∀ W, Calls Tryd.prog 35 #[.int .i64 1, .int .i64 (ls.length : Nat)] W fun e w' => e = .returned (.string (numS 1 (ls.length : Nat))) ∧ Below W.heap.size W w') := fun W => specNum_any 1 (ls.length : Nat) W (by omega) (by omega) (by omega)
      have hz1 := numS_size 1 (ls.length : Nat)
      have HKB : Hid (keyB ls = numS 1 (ls.length : Nat) ++ tailB ls) := rfl
      have HSS : Hid (sameLs (canonR ls).1 ls = true) := hs
      clear h0 hs hcan
      generalize (canonR ls).1 = C at *
      generalize (canonR ls).2.1 = c1 at *
      generalize (canonR ls).2.2 = c2 at *
      generalize numS 1 (ls.length : Nat) = NB at *
      go_enter Tryd.func15, Tryd.ntmps15
      go_wp2_with fail
      refine HC.out.mono ?_
      rintro e w1 ⟨af, cf, rfl, hof, hb1⟩
      have B1 : Hid (Below w.heap.size w w1) := hb1
      have O1 : Hid (LabsIn w1 af C ∧ LabsIn w1 a ls) := ⟨hof.labs, HF.out.later hb1⟩
      clear hof hb1 HC
      go_wp2_with fail
      refine (HSM.out _ _ _ O1.out.1 O1.out.2).mono ?_
      rintro e w2 ⟨rfl, hb2⟩
      rw [HSS.out]
      have B2 : Hid (Below w.heap.size w w2) := bto B1.out hb2
      clear hb2 O1 B1
      go_wp2_with fail
      refine (HNU.out _).mono ?_
      rintro e w3 ⟨rfl, hb3⟩
      have B3 : Hid (Below w.heap.size w w3) := bto B2.out hb3
      clear hb3 B2
      go_wp2
      go_loopw [6, 8, 28] (fun out _ i wr => ∃ (k : Nat) (st : ByteArray), k ≤ ls.length ∧ i = .int .i64 k ∧ out = .string st ∧ st.size ≤ 1 + k * 3000000000 ∧ Hid (st = NB ++ tailB (ls.take k)) ∧ Below w.heap.size w wr) (fun _ _ i _ => ls.length - (intOf i).toNat)
      case atStart => exact ⟨0, NB, Nat.zero_le _, rfl, rfl, by omega, by show _ = _; simp [tailB], B3.out⟩
      case round =>
        obtain ⟨k, st, hk, rfl, rfl, hst, HST, hbel⟩ := hrel
        by_cases hlt : k < ls.length
        · obtain ⟨b, o, rfl, hb, c0, c1⟩ := (HF.out.later hbel).at hlt
          obtain ⟨hs1, hs2⟩ := HB.out k hlt
          have HS8 : Hid (∀ W, Calls Tryd.prog 36 #[.string ls[k].name] W fun e w' => e = .returned (.string (s8B ls[k].name)) ∧ Below W.heap.size W w') := fun W => specS8_any ls[k].name W hs1
          have HS16 : Hid (∀ W, Calls Tryd.prog 37 #[.string ls[k].value] W fun e w' => e = .returned (.string (s16B ls[k].value)) ∧ Below W.heap.size W w') := fun W => specS16_any ls[k].value W hs2
          have hz8 := s8B_size ls[k].name
          have hz16 := s16B_size ls[k].value
          have HT := tailB_take ls k hlt
          have E2 : Hid (st ++ (s8B ls[k].name ++ s16B ls[k].value) = NB ++ tailB (ls.take (k + 1))) := by show _ = _; rw [HT, HST.out, ByteArray.append_assoc]
          clear HT
          generalize s8B ls[k].name = S8 at *
          generalize s16B ls[k].value = S16 at *
          generalize ls[k].name = nm at *
          generalize ls[k].value = va at *
          have hz816 : (S8 ++ S16).size = S8.size + S16.size := ByteArray.size_append
          have hzst : (st ++ (S8 ++ S16)).size = st.size + (S8.size + S16.size) := by rw [ByteArray.size_append, hz816]
          have d0 : ∀ x : Later (wr.alloc (.cells #[.string nm, .string va] 40)), x.w'.cell? ⟨wr.heap.size, 0, none⟩ = some (.string nm) := Later.cells (by simp)
          have d1 : ∀ x : Later (wr.alloc (.cells #[.string nm, .string va] 40)), x.w'.cell? ⟨wr.heap.size, 1, none⟩ = some (.string va) := Later.cells (by simp)
          have hne := Later.there (wr.alloc (.cells #[.string nm, .string va] 40))
          have hnb : ¬ b = wr.heap.size := by omega
          go_wp2_with fail
          refine wp_region_later (by kernel_rfl) (by kernel_rfl) ?_
          repeat (go_big_quiet_step (first | (go_at_call 36; exact calls_later (HS8.out _)) | (go_at_call 37; exact calls_later (HS16.out _))))
          refine wpQuiet_nil ?_
          rintro _ ⟨x, rfl⟩
          have HX : Hid (Below w.heap.size w x.w') := bto (bto hbel (bnew _ _)) x.h
          clear d0 d1 hne
          generalize x.w' = W2 at *
          clear x
          go_wp2
          exact ⟨⟨k + 1, st ++ (S8 ++ S16), by omega, by go_num, rfl, by omega, E2.out, HX.out⟩, by simp [intOf]; omega⟩
        · have E2 : Hid (st = keyV ls) := by
            show _ = _
            rw [E.out, HKB.out, HST.out, List.take_of_length_le (by omega)]
          go_wp2
          go_ret
          exact ⟨by rw [← E2.out]; rfl, hbel⟩
    · have hs' : sameLs (canonR ls).1 ls = false := by simpa using hs
      have E : Hid (keyV ls = ByteArray.empty) := by
        show _ = _
        rw [keyV, if_neg]
        unfold canB
        rw [hs', Bool.and_false]
        simp
      have HSS : Hid (sameLs (canonR ls).1 ls = false) := hs'
      clear h0 hs hs'
      generalize (canonR ls).1 = C at *
      generalize (canonR ls).2.1 = c1 at *
      generalize (canonR ls).2.2 = c2 at *
      go_enter Tryd.func15, Tryd.ntmps15
      go_wp2_with fail
      refine HC.out.mono ?_
      rintro e w1 ⟨af, cf, rfl, hof, hb1⟩
      have B1 : Hid (Below w.heap.size w w1) := hb1
      have O1 : Hid (LabsIn w1 af C ∧ LabsIn w1 a ls) := ⟨hof.labs, HF.out.later hb1⟩
      clear hof hb1 HC
      go_wp2_with fail
      refine (HSM.out _ _ _ O1.out.1 O1.out.2).mono ?_
      rintro e w2 ⟨rfl, hb2⟩
      rw [HSS.out]
      have B2 : Hid (Below w.heap.size w w2) := bto B1.out hb2
      clear hb2 O1 B1
      go_wp2
      go_ret
      exact ⟨by rw [E.out]; rfl, B2.out⟩
  · have h0b : (((canonR ls).2.1 : Int) != 0) = true := by simp; omega
    have E : Hid (keyV ls = ByteArray.empty) := by
      show _ = _
      rw [keyV, if_neg]
      unfold canB
      rw [decide_eq_false h0]
      simp
    clear h0
    generalize (canonR ls).1 = C at *
    generalize (canonR ls).2.1 = c1 at *
    generalize (canonR ls).2.2 = c2 at *
    go_enter Tryd.func15, Tryd.ntmps15
    go_wp2_with fail
    refine HC.out.mono ?_
    rintro e w1 ⟨af, cf, rfl, hof, hb1⟩
    have B1 : Hid (Below w.heap.size w w1) := hb1
    clear hof hb1 HC
    go_wp2
    go_ret
    exact ⟨by rw [E.out]; rfl, B1.out⟩
end Go.Proofs.YteohobkigjmjlaaDoor

namespace Go.Proofs.YteohobkigjmjlaaDoor
open Go.RowKit

set_option maxRecDepth 100000 in
theorem hPick_any (B P : Nat) (a : Option Addr) (m cap n : Nat) (w : World) (hU : U8In w B P a m) (hm : m ≤ 1048576) (h1 : 1 ≤ n) (hn : n ≤ 256) :
    Calls Tryd.prog 23 #[.slice a m cap, .int .i64 0, .int .i64 (n : Nat)] w fun e w' => ∃ v : Nat, v < n ∧ e = .returned (.int .i64 (v : Nat)) ∧ w' = w := by
  by_cases hm0 : m = 0
  · subst hm0
    clear hU
    go_enter Tryd.func23, Tryd.ntmps23
    go_wp2
    go_ret
    exact ⟨0, by omega, rfl, rfl⟩
  · rcases hU with h | ⟨b, o, rfl, _, _, hc⟩
    · exact absurd h hm0
    obtain ⟨v, hv, hcell⟩ := hc 0 (by omega)
    clear hc
    rw [Nat.add_zero] at hcell
    have hm1 : ¬ ((m : Int) = 0) := by omega
    have hm2 : (0 : Int) < (m : Int) := by omega
    by_cases hn1 : n ≤ 1
    · have hn' : (n : Int) ≤ 1 := by omega
      go_enter Tryd.func23, Tryd.ntmps23
      go_wp2
      go_ret
      exact ⟨0, by omega, rfl, rfl⟩
    · have hn' : ¬ ((n : Int) ≤ 1) := by omega
      have hn0 : ¬ ((n : Int) = 0) := by omega
      go_enter Tryd.func23, Tryd.ntmps23
      go_wp2
      go_ret
      exact ⟨v % n, Nat.mod_lt _ (by omega), rfl, rfl⟩

set_option maxRecDepth 100000 in
set_option maxHeartbeats 1000000 in
theorem hLabels_any (a a' : Option Addr) (cap cap' : Nat) (xs ys : List LabD) (w : World) (hf : LabsIn w a xs) (hf' : LabsIn w a' ys) (hx : xs.length ≤ 2000000) :
    Calls Tryd.prog 22 #[.slice a xs.length cap, .slice a' ys.length cap'] w fun e w' => e = .returned (.bool (sameLs xs ys)) ∧ Below w.heap.size w w' := by
  have HF : Hid (LabsIn w a xs) := hf
  have HF' : Hid (LabsIn w a' ys) := hf'
  clear hf hf'
  by_cases hl : xs.length = ys.length
  · have hlb : ((xs.length : Int) != (ys.length : Int)) = false := by simp [hl]
    have HL : Hid (xs.length = ys.length) := hl
    have hyx : ys.length ≤ xs.length ∧ xs.length ≤ ys.length := by omega
    obtain ⟨hyx1, hyx2⟩ := hyx
    clear hl
    go_enter Tryd.func22, Tryd.ntmps22
    go_wp2
    go_loopw [5, 13] (fun _ i wr => ∃ k : Nat, k ≤ xs.length ∧ i = .int .i64 k ∧ Hid (sameLs xs ys = sameLs (xs.drop k) (ys.drop k)) ∧ Below w.heap.size w wr) (fun _ i _ => xs.length - (intOf i).toNat)
    case atStart => exact ⟨0, Nat.zero_le _, rfl, rfl, Below.refl _ _⟩
    case round =>
      obtain ⟨k, hk, rfl, HK, hbel⟩ := hrel
      by_cases hlt : k < xs.length
      · have hlt' : k < ys.length := by omega
        obtain ⟨b, o, rfl, hb, c0, c1⟩ := (HF.out.later hbel).at hlt
        obtain ⟨b', o', rfl, hb', c0', c1'⟩ := (HF'.out.later hbel).at hlt'
        have HS := sameLs_drop xs ys k hlt hlt'
        have hne0 : ∀ W, Sem.run Tryd.prog (binOp .neq 40 (.agg #[.string xs[k].name, .string xs[k].value]) (.agg #[.string ys[k].name, .string ys[k].value])) W = .ok (.bool (!eqLabB xs[k] ys[k])) W := fun W => neqL.1 xs[k] ys[k] W
        have hgd0 : ∀ (op : BinOp) (p q : Operand) (W : World), Sem.run Tryd.prog (eqGuard op 40 p q (.agg #[.string xs[k].name, .string xs[k].value]) (.agg #[.string ys[k].name, .string ys[k].value])) W = .ok () W := fun op p q W => neqL.2 op p q xs[k] ys[k] W
        have d0 := Later.cells c0
        have d1 := Later.cells c1
        have d0' := Later.cells c0'
        have d1' := Later.cells c1'
        clear c0 c1 c0' c1'
        have hne := Later.there wr
        cases he : eqLabB xs[k] ys[k] with
        | true =>
          have E : Hid (sameLs xs ys = sameLs (xs.drop (k + 1)) (ys.drop (k + 1))) := by show _ = _; rw [HK.out, HS, he, Bool.true_and]
          rw [he] at hne0
          clear HS he
          generalize xs[k].name = n1 at *
          generalize xs[k].value = v1 at *
          generalize ys[k].name = n2 at *
          generalize ys[k].value = v2 at *
          go_wp2_with fail
          refine wp_region_later (by kernel_rfl) (by kernel_rfl) ?_
          repeat (go_big_quiet_step (fail))
          refine wpQuiet_nil ?_
          rintro _ ⟨x, rfl⟩
          have HX : Hid (Below w.heap.size w x.w') := bto hbel x.h
          clear d0 d1 d0' d1' hne
          generalize x.w' = W2 at *
          clear x
          go_wp2
          exact ⟨⟨k + 1, by omega, by go_num, E.out, HX.out⟩, by simp [intOf]; omega⟩
        | false =>
          have E : Hid (sameLs xs ys = false) := by show _ = _; rw [HK.out, HS, he, Bool.false_and]
          rw [he] at hne0
          clear HS he
          generalize xs[k].name = n1 at *
          generalize xs[k].value = v1 at *
          generalize ys[k].name = n2 at *
          generalize ys[k].value = v2 at *
          go_wp2_with fail
          refine wp_region_later (by kernel_rfl) (by kernel_rfl) ?_
          repeat (go_big_quiet_step (fail))
          refine wpQuiet_nil ?_
          rintro _ ⟨x, rfl⟩
          have HX : Hid (Below w.heap.size w x.w') := bto hbel x.h
          clear d0 d1 d0' d1' hne
          generalize x.w' = W2 at *
          clear x
          go_wp2
          go_ret
          exact ⟨ret_bool E.out.symm, HX.out⟩
      · have E : Hid (sameLs xs ys = true) := by
          show _ = _
          rw [HK.out, List.drop_of_length_le (by omega), List.drop_of_length_le (by omega)]; rfl
        go_wp2
        go_ret
        exact ⟨ret_bool E.out.symm, hbel⟩
  · have hlb : ((xs.length : Int) != (ys.length : Int)) = true := by simp; omega
    have E : Hid (sameLs xs ys = false) := sameLs_len hl
    go_enter Tryd.func22, Tryd.ntmps22
    go_wp2
    go_ret
    exact ⟨ret_bool E.out.symm, Below.refl _ _⟩

end Go.Proofs.YteohobkigjmjlaaDoor

namespace Go.Proofs.YteohobkigjmjlaaDoor
open Go.RowKit

theorem firstBad_nil : ∀ (ls : List LabD) (i : Nat), firstBad ls i = none ↔ ∀ l ∈ ls, labV l = 0
  | [], i => by simp [firstBad]
  | l :: r, i => by
    rw [firstBad]
    by_cases h : labV l = 0
    · rw [if_pos h, firstBad_nil r (i + 1)]
      simp [h]
    · rw [if_neg h]
      simp [h]
theorem firstBad_code : ∀ (ls : List LabD) (i c k : Nat), firstBad ls i = some (c, k) → c ≠ 0
  | [], i, c, k, h => by simp [firstBad] at h
  | l :: r, i, c, k, h => by
    rw [firstBad] at h
    by_cases hz : labV l = 0
    · rw [if_pos hz] at h; exact firstBad_code r _ c k h
    · rw [if_neg hz] at h
      simp only [Option.some.injEq, Prod.mk.injEq] at h
      omega
theorem firstTw_is : ∀ (r seen : List LabD) (i : Nat), NoTw (seen ++ r) → firstTw seen r i = none
  | [], _, _, _ => by simp [firstTw]
  | l :: r, seen, i, h => by
    rw [firstTw]
    have hn : ¬ seen.any (fun x => sameN x l) = true := by
      intro ha
      rw [List.any_eq_true] at ha
      obtain ⟨x, hx, e⟩ := ha
      unfold NoTw at h
      rw [List.pairwise_append] at h
      exact h.2.2 x hx l (by simp) ((sameN_iff _ _).1 e)
    rw [if_neg hn]
    exact firstTw_is r _ _ (by simpa using h)
theorem canon_fine {ls : List LabD} (h1 : ls.length ≤ 16) (h2 : ∀ l ∈ ls, labV l = 0) (h3 : NoTw ls) (h4 : metB ls = true) : canonR ls = (insAll [] ls, 0, 0) :=
  canon_ok (by omega) ((firstBad_nil ls 0).2 h2) (firstTw_is ls [] 0 (by simpa using h3)) h4
theorem canon_nil {ls : List LabD} (h : (canonR ls).2.1 = 0) : ls.length ≤ 16 ∧ (∀ l ∈ ls, labV l = 0) ∧ NoTw ls ∧ metB ls = true := by
  by_cases h16 : 16 < ls.length
  · rw [canon_many h16] at h; exact absurd h (by simp)
  · cases hb : firstBad ls 0 with
    | some p =>
      obtain ⟨c, i⟩ := p
      rw [canon_bad h16 hb] at h
      exact absurd h (firstBad_code ls 0 c i hb)
    | none =>
      cases ht : firstTw [] ls 0 with
      | some i => rw [canon_twice h16 hb ht] at h; exact absurd h (by simp)
      | none =>
        cases hm : metB ls with
        | false => rw [canon_met h16 hb ht hm] at h; exact absurd h (by simp)
        | true => exact ⟨by omega, (firstBad_nil ls 0).1 hb, noTw_of ls ht, rfl⟩
theorem noTw_perm {ls ls' : List LabD} (hp : ls'.Perm ls) (h : NoTw ls) : NoTw ls' := by
  unfold NoTw at *
  exact (hp.pairwise_iff (fun {x y} e => Ne.symm e)).2 h
/-- The order of the labels does not matter to their form. -/
theorem canon_perm {ls ls' : List LabD} (hp : ls'.Perm ls) (h : (canonR ls).2.1 = 0) : canonR ls' = canonR ls := by
  obtain ⟨h1, h2, h3, h4⟩ := canon_nil h
  have h3' := noTw_perm hp h3
  have h4' : metB ls' = true := by
    unfold metB at *
    rw [List.any_eq_true] at *
    obtain ⟨x, hx, e⟩ := h4
    exact ⟨x, hp.mem_iff.2 hx, e⟩
  rw [canon_fine h1 h2 h3 h4, canon_fine (by rw [hp.length_eq]; exact h1) (fun l hl => h2 l (hp.mem_iff.1 hl)) h3' h4']
  congr 1
  refine sorted_is h3 ?_ (insAll_sorted ls' [] List.Pairwise.nil)
  refine ((insAll_perm ls' []).trans (by rw [List.nil_append])).trans ?_
  exact hp.filter _
/-- A form is its own form. -/
theorem canon_idem {ls : List LabD} (h : (canonR ls).2.1 = 0) : canonR (canonR ls).1 = ((canonR ls).1, 0, 0) := by
  obtain ⟨h1, h2, h3, h4⟩ := canon_nil h
  rw [canon_fine h1 h2 h3 h4]
  simp only
  have hp : (insAll [] ls).Perm (keptL ls) := (insAll_perm ls []).trans (by rw [List.nil_append])
  have hm : ∀ l ∈ insAll [] ls, l ∈ ls ∧ isEmp l = false := fun l hl => by
    have := List.mem_filter.1 (hp.mem_iff.1 hl)
    exact ⟨this.1, by simpa using this.2⟩
  have h3' : NoTw (insAll [] ls) := noTw_perm hp (h3.sublist List.filter_sublist)
  have hk : keptL (insAll [] ls) = insAll [] ls := by
    unfold keptL
    rw [List.filter_eq_self]
    intro l hl
    rw [(hm l hl).2]; rfl
  have h4' : metB (insAll [] ls) = true := by
    unfold metB at *
    rw [List.any_eq_true] at *
    obtain ⟨x, hx, e⟩ := h4
    refine ⟨x, hp.mem_iff.2 (List.mem_filter.2 ⟨hx, ?_⟩), e⟩
    simp only [Bool.and_eq_true] at e
    exact e.1
  rw [canon_fine (by rw [hp.length_eq]; have := keptL_len ls; omega) (fun l hl => h2 l (hm l hl).1) h3' h4']
  congr 1
  exact (sorted_is h3' (by rw [hk]) (insAll_sorted ls [] List.Pairwise.nil)).symm
theorem form_can {ls : List LabD} (h : (canonR ls).2.1 = 0) : canB (canonR ls).1 = true := by
  unfold canB
  rw [canon_idem h]
  simp [sameLs_iff]
theorem form_key {ls : List LabD} (h : (canonR ls).2.1 = 0) : keyV (canonR ls).1 = keyB (canonR ls).1 ∧ decV (keyB (canonR ls).1) = ((canonR ls).1, true) := ⟨by unfold keyV; rw [if_pos (form_can h)], dec_full (form_can h)⟩
theorem key_inj {x y : List LabD} (hx : canB x = true) (hy : canB y = true) : keyB x = keyB y ↔ x = y := by
  constructor
  · intro e
    have h1 := dec_full hx
    rw [e, dec_full hy] at h1
    simp only [Prod.mk.injEq, and_true] at h1
    exact h1.symm
  · intro e; rw [e]
/-- Labels that have no form have the empty key. -/
theorem key_none {ls : List LabD} (h : (canonR ls).2.1 ≠ 0) : keyV ls = ByteArray.empty := by
  unfold keyV canB
  rw [if_neg]
  simp [h]
/-- The labels, turned. -/
theorem turn_perm (ls : List LabD) (k : Nat) : (ls.drop k ++ ls.take k).Perm ls := (List.perm_append_comm).trans (by rw [List.take_append_drop])
theorem turn_get (ls : List LabD) (k i : Nat) (hk : k < ls.length) (hi : i < ls.length) : (ls.drop k ++ ls.take k)[i]'(by simp; omega) = ls[(i + k) % ls.length]'(Nat.mod_lt _ (by omega)) := by
  by_cases h : i + k < ls.length
  · rw [List.getElem_append_left (by simp; omega)]
    simp only [List.getElem_drop]
    congr 1
    rw [Nat.mod_eq_of_lt h]
    omega
  · rw [List.getElem_append_right (by simp; omega)]
    simp only [List.length_drop, List.getElem_take]
    congr 1
    rw [Nat.mod_eq_sub_mod (by omega), Nat.mod_eq_of_lt (by omega)]
    omega
end Go.Proofs.YteohobkigjmjlaaDoor

namespace Go.Proofs.YteohobkigjmjlaaDoor
open Go.RowKit

set_option maxRecDepth 100000 in
set_option maxHeartbeats 2000000 in
theorem implName_any (s : ByteArray) (w : World) (hs : s.size ≤ maxLen) :
    Calls Tryd.prog 66 #[.string s] w fun e w' => e = .returned (.bool (nameB s)) ∧ w' = w := by
  unfold maxLen at hs
  by_cases h1 : 1 ≤ s.size ∧ s.size ≤ 64
  · have h0 : ¬ ((s.size : Int) < 1) := by omega
    have h64 : ¬ ((64 : Int) < s.size) := by omega
    go_enter Tryd.func66, Tryd.ntmps66
    go_wp2
    apply wp_scope_straight
    go_wp2
    apply wp_label
    go_wp2
    go_loop [3, 4, 20, 35] (fun i _ _ _ => ∃ j : Nat, j ≤ s.size ∧ i = .int .i64 j ∧ Hid (∀ k, k < j → nameC s k)) (fun i _ _ _ => s.size - (intOf i).toNat)
    case atStart => exact ⟨0, Nat.zero_le _, rfl, fun k hk => absurd hk (by omega)⟩
    case round =>
      obtain ⟨j, hj, rfl, HA⟩ := hrel
      by_cases hlt : j < s.size
      · have hU2 : s[j].toNat < 256 := s[j].toNat_lt
        have HE : Hid (s[j].toNat = byteAt s j) := byteAt_eq s j hlt
        have hje : ((j : Int) == (s.size : Int)) = false := by simp; omega
        by_cases hc : s[j].toNat = 95
        · have hcb : ((s[j].toNat : Int) == 95) = true := by simp; omega
          go_wp2
          all_goals
            refine ⟨⟨j + 1, by omega, by go_num, ?_⟩, by simp [intOf]; omega⟩
            show ∀ k, _
            intro k hk
            by_cases e : k = j
            · subst e; unfold nameC alphaN; rw [← HE.out]; omega
            · exact HA.out k (by omega)
        · have hcb : ((s[j].toNat : Int) == 95) = false := by simp; omega
          go_wp2
          all_goals first
            | (go_ret
               refine ⟨ret_bool (nameB_not ?_).symm, rfl⟩
               intro h
               have := h.2.2 j hlt
               unfold nameC alphaN digitN at this
               rw [← HE.out] at this
               omega)
            | (refine ⟨⟨j + 1, by omega, by go_num, ?_⟩, by simp [intOf]; omega⟩
               show ∀ k, _
               intro k hk
               by_cases e : k = j
               · subst e
                 unfold nameC alphaN digitN
                 rw [← HE.out]
                 omega
               · exact HA.out k (by omega))
      · have hje : ((j : Int) == (s.size : Int)) = true := by simp; omega
        go_wp2
        go_ret
        exact ⟨ret_bool (nameB_yes ⟨by omega, by omega, fun i hi => HA.out i (by omega)⟩).symm, rfl⟩
  · have E : Hid (nameB s = false) := nameB_not (fun h => h1 ⟨h.1, h.2.1⟩)
    by_cases h2 : (s.size : Int) < 1
    · clear h1
      go_enter Tryd.func66, Tryd.ntmps66
      go_wp2
      apply wp_scope_straight
      go_wp2
      rw [Exit.noGoto_ret]
      show bodyPost Tryd.prog Tryd.f66 _ Exit.ret _ _
      go_ret
      exact ⟨ret_bool E.out.symm, rfl⟩
    · have h3 : (64 : Int) < s.size := by omega
      clear h1
      go_enter Tryd.func66, Tryd.ntmps66
      go_wp2
      apply wp_scope_straight
      go_wp2
      rw [Exit.noGoto_ret]
      show bodyPost Tryd.prog Tryd.f66 _ Exit.ret _ _
      go_ret
      exact ⟨ret_bool E.out.symm, rfl⟩
end Go.Proofs.YteohobkigjmjlaaDoor

