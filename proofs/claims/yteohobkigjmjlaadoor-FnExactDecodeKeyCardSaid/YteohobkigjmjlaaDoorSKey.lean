import Derived.Test.YteohobkigjmjlaaDoorProg
import Derived.Test.YteohobkigjmjlaaDoorKeyL
import Derived.Test.YteohobkigjmjlaaDoorSS8
import Derived.Test.YteohobkigjmjlaaDoorSCanon
import Derived.Test.YteohobkigjmjlaaDoorNeqL
namespace Go.Proofs.YteohobkigjmjlaaDoor
open Go.RowKit

set_option maxRecDepth 100000 in
set_option maxHeartbeats 1000000 in
theorem l3Same_any (a a' : Option Addr) (cap cap' : Nat) (xs ys : List LabD) (w : World) (hf : LabsIn w a xs) (hf' : LabsIn w a' ys) (hx : xs.length ≤ 2000000) :
    Calls Tryd.prog 34 #[.slice a xs.length cap, .slice a' ys.length cap'] w fun e w' => e = .returned (.bool (sameLs xs ys)) ∧ Below w.heap.size w w' := by
  have HF : Hid (LabsIn w a xs) := hf
  have HF' : Hid (LabsIn w a' ys) := hf'
  clear hf hf'
  by_cases hl : xs.length = ys.length
  · have hlb : ((xs.length : Int) != (ys.length : Int)) = false := by simp [hl]
    have HL : Hid (xs.length = ys.length) := hl
    have hyx : ys.length ≤ xs.length ∧ xs.length ≤ ys.length := by omega
    obtain ⟨hyx1, hyx2⟩ := hyx
    clear hl
    go_enter Tryd.func34, Tryd.ntmps34
    go_wp2
    go_loopw [5, 13] (fun _ i wr => ∃ k : Nat, k ≤ xs.length ∧ i = .int .i64 k ∧ Hid (sameLs xs ys = sameLs (xs.drop k) (ys.drop k)) ∧ Below w.heap.size w wr) (fun _ i _ => xs.length - (intOf i).toNat)
    case atStart => exact ⟨0, Nat.zero_le _, rfl, rfl, Below.refl _ _⟩
    case round =>
      obtain ⟨k, hk, rfl, HK, hbel⟩ := hrel
      by_cases hlt : k < xs.length
      · have hlt' : k < ys.length := by omega
        obtain ⟨b, o, rfl, hb, c0, c1⟩ := (HF.out.later hbel).at hlt
        obtain ⟨b', o', rfl, hb', c0', c1'⟩ := (HF'.out.later hbel).at hlt'
        have HS := sameLs_drop xs ys k hlt hlt'
        have hne0 : ∀ W, Sem.run Tryd.prog (binOp .neq 40 (.agg #[.string xs[k].name, .string xs[k].value]) (.agg #[.string ys[k].name, .string ys[k].value])) W = .ok (.bool (!eqLabB xs[k] ys[k])) W := fun W => neqL.1 xs[k] ys[k] W
        have hgd0 : ∀ (op : BinOp) (p q : Operand) (W : World), Sem.run Tryd.prog (eqGuard op 40 p q (.agg #[.string xs[k].name, .string xs[k].value]) (.agg #[.string ys[k].name, .string ys[k].value])) W = .ok () W := fun op p q W => neqL.2 op p q xs[k] ys[k] W
        have d0 := Later.cells c0
        have d1 := Later.cells c1
        have d0' := Later.cells c0'
        have d1' := Later.cells c1'
        clear c0 c1 c0' c1'
        have hne := Later.there wr
        cases he : eqLabB xs[k] ys[k] with
        | true =>
          have E : Hid (sameLs xs ys = sameLs (xs.drop (k + 1)) (ys.drop (k + 1))) := by show _ = _; rw [HK.out, HS, he, Bool.true_and]
          rw [he] at hne0
          clear HS he
          generalize xs[k].name = n1 at *
          generalize xs[k].value = v1 at *
          generalize ys[k].name = n2 at *
          generalize ys[k].value = v2 at *
          go_wp2_with fail
          refine wp_region_later (by kernel_rfl) (by kernel_rfl) ?_
          repeat (go_big_quiet_step (fail))
          refine wpQuiet_nil ?_
          rintro _ ⟨x, rfl⟩
          have HX : Hid (Below w.heap.size w x.w') := bto hbel x.h
          clear d0 d1 d0' d1' hne
          generalize x.w' = W2 at *
          clear x
          go_wp2
          exact ⟨⟨k + 1, by omega, by go_num, E.out, HX.out⟩, by simp [intOf]; omega⟩
        | false =>
          have E : Hid (sameLs xs ys = false) := by show _ = _; rw [HK.out, HS, he, Bool.false_and]
          rw [he] at hne0
          clear HS he
          generalize xs[k].name = n1 at *
          generalize xs[k].value = v1 at *
          generalize ys[k].name = n2 at *
          generalize ys[k].value = v2 at *
          go_wp2_with fail
          refine wp_region_later (by kernel_rfl) (by kernel_rfl) ?_
          repeat (go_big_quiet_step (fail))
          refine wpQuiet_nil ?_
          rintro _ ⟨x, rfl⟩
          have HX : Hid (Below w.heap.size w x.w') := bto hbel x.h
          clear d0 d1 d0' d1' hne
          generalize x.w' = W2 at *
          clear x
          go_wp2
          go_ret
          exact ⟨ret_bool E.out.symm, HX.out⟩
      · have E : Hid (sameLs xs ys = true) := by
          show _ = _
          rw [HK.out, List.drop_of_length_le (by omega), List.drop_of_length_le (by omega)]; rfl
        go_wp2
        go_ret
        exact ⟨ret_bool E.out.symm, hbel⟩
  · have hlb : ((xs.length : Int) != (ys.length : Int)) = true := by simp; omega
    have E : Hid (sameLs xs ys = false) := sameLs_len hl
    go_enter Tryd.func34, Tryd.ntmps34
    go_wp2
    go_ret
    exact ⟨ret_bool E.out.symm, Below.refl _ _⟩

set_option maxRecDepth 100000 in
set_option maxHeartbeats 1000000 in
theorem specKey_any (a : Option Addr) (cap : Nat) (ls : List LabD) (w : World) (hf : LabsIn w a ls) (hB : BigS ls) (hlen : ls.length ≤ 2000000) (hcap : ls.length ≤ cap) :
    Calls Tryd.prog 15 #[.slice a ls.length cap] w fun e w' => e = .returned (.string (keyV ls)) ∧ Below w.heap.size w w' := by
  have HC : Hid (Calls Tryd.prog 9 #[.slice a ls.length cap] w fun e w' => CanonOut e w w' (canonR ls).1 (canonR ls).2.1 (canonR ls).2.2) := specCanon_any a cap ls w hf hB hlen hcap
  have HF : Hid (LabsIn w a ls) := hf
  have HB : Hid (BigS ls) := hB
  have hcl := canon_len0 ls
  unfold CanonOut at HC
  clear hf hB
  by_cases h0 : (canonR ls).2.1 = 0
  · have h0b : (((canonR ls).2.1 : Int) != 0) = false := by simp; omega
    have HSM : Hid (∀ W af cf, LabsIn W af (canonR ls).1 → LabsIn W a ls → Calls Tryd.prog 34 #[.slice af (canonR ls).1.length cf, .slice a ls.length cap] W fun e w' => e = .returned (.bool (sameLs (canonR ls).1 ls)) ∧ Below W.heap.size W w') := fun W af cf h1 h2 => l3Same_any af a cf cap _ ls W h1 h2 (by omega)
    by_cases hs : sameLs (canonR ls).1 ls = true
    · have hcan : canB ls = true := by unfold canB; rw [h0, hs]; rfl
      have E : Hid (keyV ls = keyB ls) := by show _ = _; rw [keyV, if_pos hcan]
      have h16 := can_le hcan
      have HNU : Hid (∀ W, Calls Tryd.prog 35 #[.int .i64 1, .int .i64 (ls.length : Nat)] W fun e w' => e = .returned (.string (numS 1 (ls.length : Nat))) ∧ Below W.heap.size W w') := fun W => specNum_any 1 (ls.length : Nat) W (by omega) (by omega) (by omega)
      have hz1 := numS_size 1 (ls.length : Nat)
      have HKB : Hid (keyB ls = numS 1 (ls.length : Nat) ++ tailB ls) := rfl
      have HSS : Hid (sameLs (canonR ls).1 ls = true) := hs
      clear h0 hs hcan
      generalize (canonR ls).1 = C at *
      generalize (canonR ls).2.1 = c1 at *
      generalize (canonR ls).2.2 = c2 at *
      generalize numS 1 (ls.length : Nat) = NB at *
      go_enter Tryd.func15, Tryd.ntmps15
      go_wp2_with fail
      refine HC.out.mono ?_
      rintro e w1 ⟨af, cf, rfl, hof, hb1⟩
      have B1 : Hid (Below w.heap.size w w1) := hb1
      have O1 : Hid (LabsIn w1 af C ∧ LabsIn w1 a ls) := ⟨hof.labs, HF.out.later hb1⟩
      clear hof hb1 HC
      go_wp2_with fail
      refine (HSM.out _ _ _ O1.out.1 O1.out.2).mono ?_
      rintro e w2 ⟨rfl, hb2⟩
      rw [HSS.out]
      have B2 : Hid (Below w.heap.size w w2) := bto B1.out hb2
      clear hb2 O1 B1
      go_wp2_with fail
      refine (HNU.out _).mono ?_
      rintro e w3 ⟨rfl, hb3⟩
      have B3 : Hid (Below w.heap.size w w3) := bto B2.out hb3
      clear hb3 B2
      go_wp2
      go_loopw [6, 8, 28] (fun out _ i wr => ∃ (k : Nat) (st : ByteArray), k ≤ ls.length ∧ i = .int .i64 k ∧ out = .string st ∧ st.size ≤ 1 + k * 3000000000 ∧ Hid (st = NB ++ tailB (ls.take k)) ∧ Below w.heap.size w wr) (fun _ _ i _ => ls.length - (intOf i).toNat)
      case atStart => exact ⟨0, NB, Nat.zero_le _, rfl, rfl, by omega, by show _ = _; simp [tailB], B3.out⟩
      case round =>
        obtain ⟨k, st, hk, rfl, rfl, hst, HST, hbel⟩ := hrel
        by_cases hlt : k < ls.length
        · obtain ⟨b, o, rfl, hb, c0, c1⟩ := (HF.out.later hbel).at hlt
          obtain ⟨hs1, hs2⟩ := HB.out k hlt
          have HS8 : Hid (∀ W, Calls Tryd.prog 36 #[.string ls[k].name] W fun e w' => e = .returned (.string (s8B ls[k].name)) ∧ Below W.heap.size W w') := fun W => specS8_any ls[k].name W hs1
          have HS16 : Hid (∀ W, Calls Tryd.prog 37 #[.string ls[k].value] W fun e w' => e = .returned (.string (s16B ls[k].value)) ∧ Below W.heap.size W w') := fun W => specS16_any ls[k].value W hs2
          have hz8 := s8B_size ls[k].name
          have hz16 := s16B_size ls[k].value
          have HT := tailB_take ls k hlt
          have E2 : Hid (st ++ (s8B ls[k].name ++ s16B ls[k].value) = NB ++ tailB (ls.take (k + 1))) := by show _ = _; rw [HT, HST.out, ByteArray.append_assoc]
          clear HT
          generalize s8B ls[k].name = S8 at *
          generalize s16B ls[k].value = S16 at *
          generalize ls[k].name = nm at *
          generalize ls[k].value = va at *
          have hz816 : (S8 ++ S16).size = S8.size + S16.size := ByteArray.size_append
          have hzst : (st ++ (S8 ++ S16)).size = st.size + (S8.size + S16.size) := by rw [ByteArray.size_append, hz816]
          have d0 : ∀ x : Later (wr.alloc (.cells #[.string nm, .string va] 40)), x.w'.cell? ⟨wr.heap.size, 0, none⟩ = some (.string nm) := Later.cells (by simp)
          have d1 : ∀ x : Later (wr.alloc (.cells #[.string nm, .string va] 40)), x.w'.cell? ⟨wr.heap.size, 1, none⟩ = some (.string va) := Later.cells (by simp)
          have hne := Later.there (wr.alloc (.cells #[.string nm, .string va] 40))
          have hnb : ¬ b = wr.heap.size := by omega
          go_wp2_with fail
          refine wp_region_later (by kernel_rfl) (by kernel_rfl) ?_
          repeat (go_big_quiet_step (first | (go_at_call 36; exact calls_later (HS8.out _)) | (go_at_call 37; exact calls_later (HS16.out _))))
          refine wpQuiet_nil ?_
          rintro _ ⟨x, rfl⟩
          have HX : Hid (Below w.heap.size w x.w') := bto (bto hbel (bnew _ _)) x.h
          clear d0 d1 hne
          generalize x.w' = W2 at *
          clear x
          go_wp2
          exact ⟨⟨k + 1, st ++ (S8 ++ S16), by omega, by go_num, rfl, by omega, E2.out, HX.out⟩, by simp [intOf]; omega⟩
        · have E2 : Hid (st = keyV ls) := by
            show _ = _
            rw [E.out, HKB.out, HST.out, List.take_of_length_le (by omega)]
          go_wp2
          go_ret
          exact ⟨by rw [← E2.out]; rfl, hbel⟩
    · have hs' : sameLs (canonR ls).1 ls = false := by simpa using hs
      have E : Hid (keyV ls = ByteArray.empty) := by
        show _ = _
        rw [keyV, if_neg]
        unfold canB
        rw [hs', Bool.and_false]
        simp
      have HSS : Hid (sameLs (canonR ls).1 ls = false) := hs'
      clear h0 hs hs'
      generalize (canonR ls).1 = C at *
      generalize (canonR ls).2.1 = c1 at *
      generalize (canonR ls).2.2 = c2 at *
      go_enter Tryd.func15, Tryd.ntmps15
      go_wp2_with fail
      refine HC.out.mono ?_
      rintro e w1 ⟨af, cf, rfl, hof, hb1⟩
      have B1 : Hid (Below w.heap.size w w1) := hb1
      have O1 : Hid (LabsIn w1 af C ∧ LabsIn w1 a ls) := ⟨hof.labs, HF.out.later hb1⟩
      clear hof hb1 HC
      go_wp2_with fail
      refine (HSM.out _ _ _ O1.out.1 O1.out.2).mono ?_
      rintro e w2 ⟨rfl, hb2⟩
      rw [HSS.out]
      have B2 : Hid (Below w.heap.size w w2) := bto B1.out hb2
      clear hb2 O1 B1
      go_wp2
      go_ret
      exact ⟨by rw [E.out]; rfl, B2.out⟩
  · have h0b : (((canonR ls).2.1 : Int) != 0) = true := by simp; omega
    have E : Hid (keyV ls = ByteArray.empty) := by
      show _ = _
      rw [keyV, if_neg]
      unfold canB
      rw [decide_eq_false h0]
      simp
    clear h0
    generalize (canonR ls).1 = C at *
    generalize (canonR ls).2.1 = c1 at *
    generalize (canonR ls).2.2 = c2 at *
    go_enter Tryd.func15, Tryd.ntmps15
    go_wp2_with fail
    refine HC.out.mono ?_
    rintro e w1 ⟨af, cf, rfl, hof, hb1⟩
    have B1 : Hid (Below w.heap.size w w1) := hb1
    clear hof hb1 HC
    go_wp2
    go_ret
    exact ⟨by rw [E.out]; rfl, B1.out⟩
end Go.Proofs.YteohobkigjmjlaaDoor
