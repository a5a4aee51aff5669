import Derived.Test.YtojeemogabhaoaaGreatDoorProg
import Derived.Test.YtojeemogabhaoaaGreatDoorJ05Cfg
import Derived.Test.YtojeemogabhaoaaGreatDoorJ15SS8
import Derived.Test.YtojeemogabhaoaaGreatDoorJ17SCanon
import Derived.Test.YtojeemogabhaoaaGreatDoorJ14ICan
import Derived.Test.YtojeemogabhaoaaGreatDoorJ13IFault
namespace Go.Proofs.YtojeemogabhaoaaGreatDoor
open Go.RowKit
set_option maxRecDepth 100000 in
set_option maxHeartbeats 1000000 in
theorem l3Same_any (a a' : Option Addr) (cap cap' : Nat) (xs ys : List LabD) (w : World) (hf : LabsIn w a xs) (hf' : LabsIn w a' ys) (hx : xs.length ≤ 2000000) :
    Calls Tryz.prog 105 #[.slice a xs.length cap, .slice a' ys.length cap'] w fun e w' => e = .returned (.bool (sameLs xs ys)) ∧ Below w.heap.size w w' := by
  have HF : Hid (LabsIn w a xs) := hf
  have HF' : Hid (LabsIn w a' ys) := hf'
  clear hf hf'
  by_cases hl : xs.length = ys.length
  · have hlb : ((xs.length : Int) != (ys.length : Int)) = false := by simp [hl]
    have HL : Hid (xs.length = ys.length) := hl
    have hyx : ys.length ≤ xs.length ∧ xs.length ≤ ys.length := by omega
    obtain ⟨hyx1, hyx2⟩ := hyx
    clear hl
    go_enter Tryz.func105, Tryz.ntmps105
    go_wp2
    go_loopw [5, 13] (fun _ i wr => ∃ k : Nat, k ≤ xs.length ∧ i = .int .i64 k ∧ Hid (sameLs xs ys = sameLs (xs.drop k) (ys.drop k)) ∧ Below w.heap.size w wr) (fun _ i _ => xs.length - (intOf i).toNat)
    case atStart => exact ⟨0, Nat.zero_le _, rfl, rfl, Below.refl _ _⟩
    case round =>
      obtain ⟨k, hk, rfl, HK, hbel⟩ := hrel
      by_cases hlt : k < xs.length
      · have hlt' : k < ys.length := by omega
        obtain ⟨b, o, rfl, hb, c0, c1⟩ := (HF.out.later hbel).at hlt
        obtain ⟨b', o', rfl, hb', c0', c1'⟩ := (HF'.out.later hbel).at hlt'
        have HS := sameLs_drop xs ys k hlt hlt'
        have hne0 : ∀ W, Sem.run Tryz.prog (binOp .neq 135 (.agg #[.string xs[k].name, .string xs[k].value]) (.agg #[.string ys[k].name, .string ys[k].value])) W = .ok (.bool (!eqLabB xs[k] ys[k])) W := fun W => neqL.1 xs[k] ys[k] W
        have hgd0 : ∀ (op : BinOp) (p q : Operand) (W : World), Sem.run Tryz.prog (eqGuard op 135 p q (.agg #[.string xs[k].name, .string xs[k].value]) (.agg #[.string ys[k].name, .string ys[k].value])) W = .ok () W := fun op p q W => neqL.2 op p q xs[k] ys[k] W
        have d0 := Later.cells c0
        have d1 := Later.cells c1
        have d0' := Later.cells c0'
        have d1' := Later.cells c1'
        clear c0 c1 c0' c1'
        have hne := Later.there wr
        cases he : eqLabB xs[k] ys[k] with
        | true =>
          have E : Hid (sameLs xs ys = sameLs (xs.drop (k + 1)) (ys.drop (k + 1))) := by show _ = _; rw [HK.out, HS, he, Bool.true_and]
          rw [he] at hne0
          clear HS he
          generalize xs[k].name = n1 at *
          generalize xs[k].value = v1 at *
          generalize ys[k].name = n2 at *
          generalize ys[k].value = v2 at *
          go_wp2_with fail
          refine wp_region_later (by kernel_rfl) (by kernel_rfl) ?_
          repeat (go_big_quiet_step (fail))
          refine wpQuiet_nil ?_
          rintro _ ⟨x, rfl⟩
          have HX : Hid (Below w.heap.size w x.w') := bto hbel x.h
          clear d0 d1 d0' d1' hne
          generalize x.w' = W2 at *
          clear x
          go_wp2
          exact ⟨⟨k + 1, by omega, by go_num, E.out, HX.out⟩, by simp [intOf]; omega⟩
        | false =>
          have E : Hid (sameLs xs ys = false) := by show _ = _; rw [HK.out, HS, he, Bool.false_and]
          rw [he] at hne0
          clear HS he
          generalize xs[k].name = n1 at *
          generalize xs[k].value = v1 at *
          generalize ys[k].name = n2 at *
          generalize ys[k].value = v2 at *
          go_wp2_with fail
          refine wp_region_later (by kernel_rfl) (by kernel_rfl) ?_
          repeat (go_big_quiet_step (fail))
          refine wpQuiet_nil ?_
          rintro _ ⟨x, rfl⟩
          have HX : Hid (Below w.heap.size w x.w') := bto hbel x.h
          clear d0 d1 d0' d1' hne
          generalize x.w' = W2 at *
          clear x
          go_wp2
          go_ret
          exact ⟨ret_bool E.out.symm, HX.out⟩
      · have E : Hid (sameLs xs ys = true) := by
          show _ = _
          rw [HK.out, List.drop_of_length_le (by omega), List.drop_of_length_le (by omega)]; rfl
        go_wp2
        go_ret
        exact ⟨ret_bool E.out.symm, hbel⟩
  · have hlb : ((xs.length : Int) != (ys.length : Int)) = true := by simp; omega
    have E : Hid (sameLs xs ys = false) := sameLs_len hl
    go_enter Tryz.func105, Tryz.ntmps105
    go_wp2
    go_ret
    exact ⟨ret_bool E.out.symm, Below.refl _ _⟩
set_option maxRecDepth 100000 in
set_option maxHeartbeats 1000000 in
theorem specKey_any (a : Option Addr) (cap : Nat) (ls : List LabD) (w : World) (hf : LabsIn w a ls) (hB : BigS ls) (hlen : ls.length ≤ 2000000) (hcap : ls.length ≤ cap) :
    Calls Tryz.prog 86 #[.slice a ls.length cap] w fun e w' => e = .returned (.string (keyV ls)) ∧ Below w.heap.size w w' := by
  have HC : Hid (Calls Tryz.prog 104 #[.slice a ls.length cap] w fun e w' => CanonOut e w w' (canonR ls).1 (canonR ls).2.1 (canonR ls).2.2) := specCanon_any a cap ls w hf hB hlen hcap
  have HF : Hid (LabsIn w a ls) := hf
  have HB : Hid (BigS ls) := hB
  have hcl := canon_len0 ls
  unfold CanonOut at HC
  clear hf hB
  by_cases h0 : (canonR ls).2.1 = 0
  · have h0b : (((canonR ls).2.1 : Int) != 0) = false := by simp; omega
    have HSM : Hid (∀ W af cf, LabsIn W af (canonR ls).1 → LabsIn W a ls → Calls Tryz.prog 105 #[.slice af (canonR ls).1.length cf, .slice a ls.length cap] W fun e w' => e = .returned (.bool (sameLs (canonR ls).1 ls)) ∧ Below W.heap.size W w') := fun W af cf h1 h2 => l3Same_any af a cf cap _ ls W h1 h2 (by omega)
    by_cases hs : sameLs (canonR ls).1 ls = true
    · have hcan : canB ls = true := by unfold canB; rw [h0, hs]; rfl
      have E : Hid (keyV ls = keyB ls) := by show _ = _; rw [keyV, if_pos hcan]
      have h16 := can_le hcan
      have HNU : Hid (∀ W, Calls Tryz.prog 106 #[.int .i64 1, .int .i64 (ls.length : Nat)] W fun e w' => e = .returned (.string (numS 1 (ls.length : Nat))) ∧ Below W.heap.size W w') := fun W => specNum_any 1 (ls.length : Nat) W (by omega) (by omega) (by omega)
      have hz1 := numS_size 1 (ls.length : Nat)
      have HKB : Hid (keyB ls = numS 1 (ls.length : Nat) ++ tailB ls) := rfl
      have HSS : Hid (sameLs (canonR ls).1 ls = true) := hs
      clear h0 hs hcan
      generalize (canonR ls).1 = C at *
      generalize (canonR ls).2.1 = c1 at *
      generalize (canonR ls).2.2 = c2 at *
      generalize numS 1 (ls.length : Nat) = NB at *
      go_enter Tryz.func86, Tryz.ntmps86
      go_wp2_with fail
      refine HC.out.mono ?_
      rintro e w1 ⟨af, cf, rfl, hof, hb1⟩
      have B1 : Hid (Below w.heap.size w w1) := hb1
      have O1 : Hid (LabsIn w1 af C ∧ LabsIn w1 a ls) := ⟨hof.labs, HF.out.later hb1⟩
      clear hof hb1 HC
      go_wp2_with fail
      refine (HSM.out _ _ _ O1.out.1 O1.out.2).mono ?_
      rintro e w2 ⟨rfl, hb2⟩
      rw [HSS.out]
      have B2 : Hid (Below w.heap.size w w2) := bto B1.out hb2
      clear hb2 O1 B1
      go_wp2_with fail
      refine (HNU.out _).mono ?_
      rintro e w3 ⟨rfl, hb3⟩
      have B3 : Hid (Below w.heap.size w w3) := bto B2.out hb3
      clear hb3 B2
      go_wp2
      go_loopw [6, 8, 28] (fun out _ i wr => ∃ (k : Nat) (st : ByteArray), k ≤ ls.length ∧ i = .int .i64 k ∧ out = .string st ∧ st.size ≤ 1 + k * 3000000000 ∧ Hid (st = NB ++ tailB (ls.take k)) ∧ Below w.heap.size w wr) (fun _ _ i _ => ls.length - (intOf i).toNat)
      case atStart => exact ⟨0, NB, Nat.zero_le _, rfl, rfl, by omega, by show _ = _; simp [tailB], B3.out⟩
      case round =>
        obtain ⟨k, st, hk, rfl, rfl, hst, HST, hbel⟩ := hrel
        by_cases hlt : k < ls.length
        · obtain ⟨b, o, rfl, hb, c0, c1⟩ := (HF.out.later hbel).at hlt
          obtain ⟨hs1, hs2⟩ := HB.out k hlt
          have HS8 : Hid (∀ W, Calls Tryz.prog 107 #[.string ls[k].name] W fun e w' => e = .returned (.string (s8B ls[k].name)) ∧ Below W.heap.size W w') := fun W => specS8_any ls[k].name W hs1
          have HS16 : Hid (∀ W, Calls Tryz.prog 108 #[.string ls[k].value] W fun e w' => e = .returned (.string (s16B ls[k].value)) ∧ Below W.heap.size W w') := fun W => specS16_any ls[k].value W hs2
          have hz8 := s8B_size ls[k].name
          have hz16 := s16B_size ls[k].value
          have HT := tailB_take ls k hlt
          have E2 : Hid (st ++ (s8B ls[k].name ++ s16B ls[k].value) = NB ++ tailB (ls.take (k + 1))) := by show _ = _; rw [HT, HST.out, ByteArray.append_assoc]
          clear HT
          generalize s8B ls[k].name = S8 at *
          generalize s16B ls[k].value = S16 at *
          generalize ls[k].name = nm at *
          generalize ls[k].value = va at *
          have hz816 : (S8 ++ S16).size = S8.size + S16.size := ByteArray.size_append
          have hzst : (st ++ (S8 ++ S16)).size = st.size + (S8.size + S16.size) := by rw [ByteArray.size_append, hz816]
          have d0 : ∀ x : Later (wr.alloc (.cells #[.string nm, .string va] 135)), x.w'.cell? ⟨wr.heap.size, 0, none⟩ = some (.string nm) := Later.cells (by simp)
          have d1 : ∀ x : Later (wr.alloc (.cells #[.string nm, .string va] 135)), x.w'.cell? ⟨wr.heap.size, 1, none⟩ = some (.string va) := Later.cells (by simp)
          have hne := Later.there (wr.alloc (.cells #[.string nm, .string va] 135))
          have hnb : ¬ b = wr.heap.size := by omega
          go_wp2_with fail
          refine wp_region_later (by kernel_rfl) (by kernel_rfl) ?_
          repeat (go_big_quiet_step (first | (go_at_call 107; exact calls_later (HS8.out _)) | (go_at_call 108; exact calls_later (HS16.out _))))
          refine wpQuiet_nil ?_
          rintro _ ⟨x, rfl⟩
          have HX : Hid (Below w.heap.size w x.w') := bto (bto hbel (bnew _ _)) x.h
          clear d0 d1 hne
          generalize x.w' = W2 at *
          clear x
          go_wp2
          exact ⟨⟨k + 1, st ++ (S8 ++ S16), by omega, by go_num, rfl, by omega, E2.out, HX.out⟩, by simp [intOf]; omega⟩
        · have E2 : Hid (st = keyV ls) := by
            show _ = _
            rw [E.out, HKB.out, HST.out, List.take_of_length_le (by omega)]
          go_wp2
          go_ret
          exact ⟨by rw [← E2.out]; rfl, hbel⟩
    · have hs' : sameLs (canonR ls).1 ls = false := by simpa using hs
      have E : Hid (keyV ls = ByteArray.empty) := by
        show _ = _
        rw [keyV, if_neg]
        unfold canB
        rw [hs', Bool.and_false]
        simp
      have HSS : Hid (sameLs (canonR ls).1 ls = false) := hs'
      clear h0 hs hs'
      generalize (canonR ls).1 = C at *
      generalize (canonR ls).2.1 = c1 at *
      generalize (canonR ls).2.2 = c2 at *
      go_enter Tryz.func86, Tryz.ntmps86
      go_wp2_with fail
      refine HC.out.mono ?_
      rintro e w1 ⟨af, cf, rfl, hof, hb1⟩
      have B1 : Hid (Below w.heap.size w w1) := hb1
      have O1 : Hid (LabsIn w1 af C ∧ LabsIn w1 a ls) := ⟨hof.labs, HF.out.later hb1⟩
      clear hof hb1 HC
      go_wp2_with fail
      refine (HSM.out _ _ _ O1.out.1 O1.out.2).mono ?_
      rintro e w2 ⟨rfl, hb2⟩
      rw [HSS.out]
      have B2 : Hid (Below w.heap.size w w2) := bto B1.out hb2
      clear hb2 O1 B1
      go_wp2
      go_ret
      exact ⟨by rw [E.out]; rfl, B2.out⟩
  · have h0b : (((canonR ls).2.1 : Int) != 0) = true := by simp; omega
    have E : Hid (keyV ls = ByteArray.empty) := by
      show _ = _
      rw [keyV, if_neg]
      unfold canB
      rw [decide_eq_false h0]
      simp
    clear h0
    generalize (canonR ls).1 = C at *
    generalize (canonR ls).2.1 = c1 at *
    generalize (canonR ls).2.2 = c2 at *
    go_enter Tryz.func86, Tryz.ntmps86
    go_wp2_with fail
    refine HC.out.mono ?_
    rintro e w1 ⟨af, cf, rfl, hof, hb1⟩
    have B1 : Hid (Below w.heap.size w w1) := hb1
    clear hof hb1 HC
    go_wp2
    go_ret
    exact ⟨by rw [E.out]; rfl, B1.out⟩
end Go.Proofs.YtojeemogabhaoaaGreatDoor
namespace Go.Proofs.YtojeemogabhaoaaGreatDoor
open Go.RowKit
def lenOf : Value → Nat
  | .slice _ n _ => n
  | _ => 0
def ReadOf (key : ByteArray) (acc : List LabD) (at_ : Int) : Prop := ∀ ls, canB ls = true → keyB ls = key → acc.length ≤ ls.length ∧ acc = ls.take acc.length ∧ at_ = ((1 + (tailB acc).size : Nat) : Int)
theorem tail_list (l : LabD) (r : List LabD) : (tailB (l :: r)).data.toList = (numS 1 (l.name.size : Nat)).data.toList ++ (l.name.data.toList ++ ((numS 2 (l.value.size : Nat)).data.toList ++ (l.value.data.toList ++ (tailB r).data.toList))) := by
  simp [tailB, s8B, s16B]
theorem key_split (ls : List LabD) (k : Nat) (h : k < ls.length) : (keyB ls).data.toList = ((numS 1 (ls.length : Nat)).data.toList ++ (tailB (ls.take k)).data.toList) ++ (tailB (ls[k] :: ls.drop (k + 1))).data.toList := by
  have e : tailB ls = tailB (ls.take k) ++ tailB (ls[k] :: ls.drop (k + 1)) := by
    rw [← tailB_append, ← List.drop_eq_getElem_cons h, List.take_append_drop]
  rw [keyB, e]
  simp
theorem pre_len (ls : List LabD) (k : Nat) : ((numS 1 (ls.length : Nat)).data.toList ++ (tailB (ls.take k)).data.toList).length = 1 + (tailB (ls.take k)).size := by
  rw [List.length_append, ← bsize, ← bsize, numS_size]
theorem part_name {ls : List LabD} (hc : canB ls = true) (k : Nat) (h : k < ls.length) : partN (keyB ls) (1 + (tailB (ls.take k)).size) 1 = some (ls[k].name, 1 + (tailB (ls.take k)).size + 1 + ls[k].name.size) := by
  have hs := can_small hc k h
  refine part_at (post := (numS 2 (ls[k].value.size : Nat)).data.toList ++ (ls[k].value.data.toList ++ (tailB (ls.drop (k + 1))).data.toList)) ?_ (pre_len ls k) (by omega)
  rw [key_split ls k h, tail_list]
theorem part_value {ls : List LabD} (hc : canB ls = true) (k : Nat) (h : k < ls.length) : partN (keyB ls) (1 + (tailB (ls.take k)).size + 1 + ls[k].name.size) 2 = some (ls[k].value, 1 + (tailB (ls.take k)).size + 1 + ls[k].name.size + 2 + ls[k].value.size) := by
  have hs := can_small hc k h
  refine part_at (pre := ((numS 1 (ls.length : Nat)).data.toList ++ (tailB (ls.take k)).data.toList) ++ ((numS 1 (ls[k].name.size : Nat)).data.toList ++ ls[k].name.data.toList)) (post := (tailB (ls.drop (k + 1))).data.toList) ?_ ?_ (by omega)
  · rw [key_split ls k h, tail_list]
    simp only [List.append_assoc]
  · rw [List.length_append, pre_len, List.length_append, ← bsize, ← bsize, numS_size]
    omega
theorem tail_size (ls : List LabD) (k : Nat) (h : k < ls.length) : (tailB (ls.take (k + 1))).size = (tailB (ls.take k)).size + 1 + ls[k].name.size + 2 + ls[k].value.size := by
  rw [tailB_take ls k h, ByteArray.size_append, ByteArray.size_append, s8B_size, s16B_size]
  omega
theorem tail_mono (ls : List LabD) (k : Nat) : (tailB (ls.take k)).size ≤ (tailB ls).size := by
  have e : tailB ls = tailB (ls.take k) ++ tailB (ls.drop k) := by rw [← tailB_append, List.take_append_drop]
  rw [e, ByteArray.size_append]
  omega
theorem key_size (ls : List LabD) : (keyB ls).size = 1 + (tailB ls).size := by rw [keyB, ByteArray.size_append, numS_size]
theorem readOf_start (key : ByteArray) : ReadOf key [] 1 := fun ls _ _ => ⟨Nat.zero_le _, by simp, rfl⟩
theorem readOf_more {key : ByteArray} {acc : List LabD} {p : Nat} (h : ReadOf key acc (p : Nat)) (hp : p < key.size) : ∀ ls, canB ls = true → keyB ls = key → ∃ hk : acc.length < ls.length, partN key p 1 = some (ls[acc.length].name, p + 1 + ls[acc.length].name.size) ∧ partN key (p + 1 + ls[acc.length].name.size) 2 = some (ls[acc.length].value, p + 1 + ls[acc.length].name.size + 2 + ls[acc.length].value.size) := by
  intro ls hc hk
  obtain ⟨h1, h2, h3⟩ := h ls hc hk
  have hpe : p = 1 + (tailB acc).size := by omega
  have hlt : acc.length < ls.length := by
    rcases Nat.lt_or_ge acc.length ls.length with hlt | hge
    · exact hlt
    · exfalso
      have e : acc = ls := by rw [h2]; exact List.take_of_length_le (by omega)
      have := key_size ls
      rw [hk] at this
      rw [e] at hpe
      omega
  refine ⟨hlt, ?_, ?_⟩
  · have := part_name hc acc.length hlt
    rw [← h2, hk, ← hpe] at this
    exact this
  · have := part_value hc acc.length hlt
    rw [← h2, hk, ← hpe] at this
    exact this
theorem readOf_some {key : ByteArray} {acc : List LabD} {p : Nat} (h : ReadOf key acc (p : Nat)) (hp : p < key.size) {nm va : ByteArray} {q q2 : Nat} (e1 : partN key p 1 = some (nm, q)) (e2 : partN key q 2 = some (va, q2)) : ReadOf key (acc ++ [⟨nm, va⟩]) (q2 : Nat) := by
  intro ls hc hk
  obtain ⟨hlt, g1, g2⟩ := readOf_more h hp ls hc hk
  obtain ⟨h1, h2, h3⟩ := h ls hc hk
  rw [e1] at g1
  simp only [Option.some.injEq, Prod.mk.injEq] at g1
  obtain ⟨rfl, rfl⟩ := g1
  rw [e2] at g2
  simp only [Option.some.injEq, Prod.mk.injEq] at g2
  obtain ⟨rfl, rfl⟩ := g2
  have hl : (acc ++ [(⟨ls[acc.length].name, ls[acc.length].value⟩ : LabD)]).length = acc.length + 1 := by simp
  have ht : acc ++ [(⟨ls[acc.length].name, ls[acc.length].value⟩ : LabD)] = ls.take (acc.length + 1) := by
    rw [List.take_succ_eq_append_getElem hlt, ← h2]
  refine ⟨by rw [hl]; omega, by rw [hl]; exact ht, ?_⟩
  rw [ht, tail_size ls acc.length hlt, ← h2]
  have hpe : p = 1 + (tailB acc).size := by omega
  congr 1
  omega
theorem readOf_none {key : ByteArray} {acc : List LabD} {p : Nat} (h : ReadOf key acc (p : Nat)) (hp : p < key.size) (hn : partN key p 1 = none ∨ ∃ nm q, partN key p 1 = some (nm, q) ∧ partN key q 2 = none) (acc' : List LabD) (a' : Int) : ReadOf key acc' a' := by
  intro ls hc hk
  exfalso
  obtain ⟨hlt, g1, g2⟩ := readOf_more h hp ls hc hk
  rcases hn with hn | ⟨nm, q, hn1, hn2⟩
  · rw [hn] at g1; exact absurd g1 (by simp)
  · rw [hn1] at g1
    simp only [Option.some.injEq, Prod.mk.injEq] at g1
    obtain ⟨rfl, rfl⟩ := g1
    rw [hn2] at g2
    exact absurd g2 (by simp)
theorem readOf_end {key : ByteArray} {acc : List LabD} {a : Int} (h : ReadOf key acc a) (he : a ≤ 0 ∨ (key.size : Int) ≤ a ∨ 16 < acc.length) :
    (decV key = (acc, true) ∧ keyV acc = key ∧ 0 < key.size) ∨ (decV key = ([], false) ∧ (key.size = 0 ∨ keyV acc ≠ key)) := by
  cases hd : (decV key).2 with
  | true =>
    obtain ⟨hc, hk⟩ := dec_key hd
    obtain ⟨h1, h2, h3⟩ := h _ hc hk
    have h16 := can_le hc
    have hkz := key_size (decV key).1
    rw [hk] at hkz
    have e : acc = (decV key).1 := by
      rcases Nat.lt_or_ge acc.length (decV key).1.length with hlt | hge
      · exfalso
        have ht := tail_size (decV key).1 acc.length hlt
        have hm := tail_mono (decV key).1 (acc.length + 1)
        rw [← h2] at ht
        omega
      · rw [h2]; exact List.take_of_length_le (by omega)
    left
    refine ⟨?_, ?_, by omega⟩
    · rw [e]
      cases hdk : decV key with
      | mk x y => rw [hdk] at hd; simp only at hd ⊢; rw [hd]
    · rw [e, keyV, if_pos hc, hk]
  | false =>
    obtain ⟨h1, h2⟩ := dec_not hd
    right
    refine ⟨h1, ?_⟩
    by_cases hz : key.size = 0
    · exact Or.inl hz
    · right
      intro hk
      unfold keyV at hk
      split at hk
      · rename_i hc; exact h2 acc hc hk
      · rw [← hk] at hz; exact hz rfl
theorem big_snoc {acc : List LabD} (h : BigS acc) {l : LabD} (hl : l.name.size ≤ 1000000000 ∧ l.value.size ≤ 1000000000) : BigS (acc ++ [l]) := fun i hi => by
  by_cases e : i < acc.length
  · rw [List.getElem_append_left e]; exact h i e
  · rw [List.getElem_append_right (by omega)]
    simpa using hl
set_option maxRecDepth 100000 in
set_option maxHeartbeats 2000000 in
theorem specDec_any (key : ByteArray) (w : World) (hs : key.size ≤ 1000000000) :
    Calls Tryz.prog 56 #[.string key] w fun e w' => ∃ a cap, e = .returned (.tuple #[.slice a (decV key).1.length cap, .bool (decV key).2]) ∧ LabsOwn w' w.heap.size a (decV key).1 ∧ Below w.heap.size w w' := by
  obtain ⟨ti, hti, ht0, ht1, ht2⟩ := info_lab
  have HI : Hid (Tryz.prog.info? 135 = some ti) := hti
  clear hti
  go_enter Tryz.func56, Tryz.ntmps56
  go_wp2
  go_loopw [4, 5, 6, 7, 8, 9] (fun out at_ _ _ _ _ wr => ∃ (acc : List LabD) (p : Int) (g cv : Nat), at_ = .int .i64 p ∧ out = .slice (some ⟨g, 0, none⟩) acc.length cv ∧ -1 ≤ p ∧ p ≤ 1000000000 ∧ acc.length ≤ 17 ∧ Hid (BigS acc ∧ ReadOf key acc p) ∧ Hid (wr.ownsRow w.heap.size 135 2 (.slice (some ⟨g, 0, none⟩) acc.length cv) acc.length (flatL acc)) ∧ Below w.heap.size w wr) (fun out _ _ _ _ _ _ => 18 - lenOf out)
  case atStart =>
    exact ⟨[], 1, _, _, rfl, rfl, by omega, by omega, by simp, ⟨fun i h => absurd h (by simp), readOf_start key⟩, World.ownsRow_made w #[] 0 (Nat.le_refl _) (by simp [maxLen]) (by simp), bnew _ _⟩
  case round =>
    obtain ⟨acc, pI, g, cv, rfl, rfl, hp1, hp2, hal, HR, HROW, hbel⟩ := hrel
    have hsz := hbel.size
    by_cases hgo : 0 < pI ∧ pI < (key.size : Int) ∧ acc.length ≤ 16
    · obtain ⟨hg1, hg2, hg3⟩ := hgo
      obtain ⟨p, rfl⟩ : ∃ p : Nat, pI = (p : Int) := ⟨pI.toNat, by omega⟩
      have hpk : p < key.size := by omega
      have hacc : ((acc.length : Nat) : Int) ≤ 16 := by omega
      cases hn1 : partN key p 1 with
      | none =>
        have HP1 : Hid (∀ W, Calls Tryz.prog 85 #[.string key, .int .i64 (p : Nat), .int .i64 1] W fun e w' => e = .returned (.tuple #[.string ByteArray.empty, .int .i64 (-1)]) ∧ w' = W) := fun W => specPart_none key p 1 W hs (by omega) (by omega) hn1
        have HP2 : Hid (∀ W, Calls Tryz.prog 85 #[.string key, .int .i64 (-1), .int .i64 2] W fun e w' => e = .returned (.tuple #[.string ByteArray.empty, .int .i64 (-1)]) ∧ w' = W) := fun W => specPart_neg key 2 W
        have HRO : Hid (ReadOf key (acc ++ [⟨ByteArray.empty, ByteArray.empty⟩]) (-1)) := readOf_none HR.out.2 hpk (Or.inl hn1) _ _
        clear hn1
        generalize hEm : ByteArray.empty = em at *
        have HEM : Hid (em.size = 0) := by show _ = _; rw [← hEm]; rfl
        clear hEm
        go_wp2_with fail
        refine (HP1.out _).mono ?_
        rintro e w1 ⟨rfl, hw⟩
        replace hw := hw.symm
        subst hw
        go_wp2_with fail
        refine (HP2.out _).mono ?_
        rintro e w1 ⟨rfl, hw⟩
        replace hw := hw.symm
        subst hw
        go_wp2_with (at_builtin; refine wpList_append_lies _ rfl _ _ _ rfl w.heap.size 135 ti _ 2 32 Tryz.underlying91 HI.out ht0 ht1 ht2 rfl (by omega) (.slice (some ⟨g, 0, none⟩) acc.length cv) acc.length (flatL acc) rfl (by exact row_later HROW.out (bnew _ _)) ⟨wr.heap.size, 0, none⟩ 1 1 [.string em, .string em] rfl rfl (by exact World.news_of_block (cs := #[.string em, .string em]) (heap_alloc_new _ _)) (by simp [Value.oneCell']) (by omega) (by simp [maxLen]; omega) (by omega) (by simp; omega) (wr.heap.size + 1) (by simp) ?_; intro g5 cap5 w5 hown5 hgrow5 hat5 hlt5)
        have hB5 : Below w.heap.size w w5 := (bto hbel (bnew _ _)).grown hgrow5 (by simp; omega) (fun q hq => row_from HROW.out q hq)
        have hle : (acc ++ [(⟨em, em⟩ : LabD)]).length = acc.length + 1 := by simp
        have hxs : flatL acc ++ [.string em, .string em] = flatL (acc ++ [⟨em, em⟩]) := by rw [flatL_append]; rfl
        rw [hxs, ← hle] at hown5
        refine ⟨⟨acc ++ [(⟨em, em⟩ : LabD)], -1, g5, cap5, rfl, by rw [hle], by omega, by omega, by omega, ⟨big_snoc HR.out.1 ⟨by rw [HEM.out]; omega, by rw [HEM.out]; omega⟩, HRO.out⟩, hown5, hB5⟩, by simp only [lenOf]; omega⟩
      | some tq =>
        obtain ⟨nm, q⟩ := tq
        obtain ⟨hq1, hq2, hq3⟩ := part_le hn1
        have HP1 : Hid (∀ W, Calls Tryz.prog 85 #[.string key, .int .i64 (p : Nat), .int .i64 1] W fun e w' => e = .returned (.tuple #[.string nm, .int .i64 (q : Nat)]) ∧ w' = W) := fun W => specPart_some key p 1 nm q W hs (by omega) hn1
        cases hn2 : partN key q 2 with
        | none =>
          have HP2 : Hid (∀ W, Calls Tryz.prog 85 #[.string key, .int .i64 (q : Nat), .int .i64 2] W fun e w' => e = .returned (.tuple #[.string ByteArray.empty, .int .i64 (-1)]) ∧ w' = W) := fun W => specPart_none key q 2 W hs (by omega) (by omega) hn2
          have HRO : Hid (ReadOf key (acc ++ [⟨nm, ByteArray.empty⟩]) (-1)) := readOf_none HR.out.2 hpk (Or.inr ⟨nm, q, hn1, hn2⟩) _ _
          clear hn1 hn2
          generalize hEm : ByteArray.empty = em at *
          have HEM : Hid (em.size = 0) := by show _ = _; rw [← hEm]; rfl
          clear hEm
          go_wp2_with fail
          refine (HP1.out _).mono ?_
          rintro e w1 ⟨rfl, hw⟩
          replace hw := hw.symm
          subst hw
          go_wp2_with fail
          refine (HP2.out _).mono ?_
          rintro e w1 ⟨rfl, hw⟩
          replace hw := hw.symm
          subst hw
          go_wp2_with (at_builtin; refine wpList_append_lies _ rfl _ _ _ rfl w.heap.size 135 ti _ 2 32 Tryz.underlying91 HI.out ht0 ht1 ht2 rfl (by omega) (.slice (some ⟨g, 0, none⟩) acc.length cv) acc.length (flatL acc) rfl (by exact row_later HROW.out (bnew _ _)) ⟨wr.heap.size, 0, none⟩ 1 1 [.string nm, .string em] rfl rfl (by exact World.news_of_block (cs := #[.string nm, .string em]) (heap_alloc_new _ _)) (by simp [Value.oneCell']) (by omega) (by simp [maxLen]; omega) (by omega) (by simp; omega) (wr.heap.size + 1) (by simp) ?_; intro g5 cap5 w5 hown5 hgrow5 hat5 hlt5)
          have hB5 : Below w.heap.size w w5 := (bto hbel (bnew _ _)).grown hgrow5 (by simp; omega) (fun q hq => row_from HROW.out q hq)
          have hle : (acc ++ [(⟨nm, em⟩ : LabD)]).length = acc.length + 1 := by simp
          have hxs : flatL acc ++ [.string nm, .string em] = flatL (acc ++ [⟨nm, em⟩]) := by rw [flatL_append]; rfl
          rw [hxs, ← hle] at hown5
          refine ⟨⟨acc ++ [(⟨nm, em⟩ : LabD)], -1, g5, cap5, rfl, by rw [hle], by omega, by omega, by omega, ⟨big_snoc HR.out.1 ⟨by simp only; omega, by simp only; rw [HEM.out]; omega⟩, HRO.out⟩, hown5, hB5⟩, by simp only [lenOf]; omega⟩
        | some tq2 =>
          obtain ⟨va, q2⟩ := tq2
          obtain ⟨hr1, hr2, hr3⟩ := part_le hn2
          have HP2 : Hid (∀ W, Calls Tryz.prog 85 #[.string key, .int .i64 (q : Nat), .int .i64 2] W fun e w' => e = .returned (.tuple #[.string va, .int .i64 (q2 : Nat)]) ∧ w' = W) := fun W => specPart_some key q 2 va q2 W hs (by omega) hn2
          have HRO : Hid (ReadOf key (acc ++ [⟨nm, va⟩]) (q2 : Nat)) := readOf_some HR.out.2 hpk hn1 hn2
          clear hn1 hn2
          go_wp2_with fail
          refine (HP1.out _).mono ?_
          rintro e w1 ⟨rfl, hw⟩
          replace hw := hw.symm
          subst hw
          go_wp2_with fail
          refine (HP2.out _).mono ?_
          rintro e w1 ⟨rfl, hw⟩
          replace hw := hw.symm
          subst hw
          go_wp2_with (at_builtin; refine wpList_append_lies _ rfl _ _ _ rfl w.heap.size 135 ti _ 2 32 Tryz.underlying91 HI.out ht0 ht1 ht2 rfl (by omega) (.slice (some ⟨g, 0, none⟩) acc.length cv) acc.length (flatL acc) rfl (by exact row_later HROW.out (bnew _ _)) ⟨wr.heap.size, 0, none⟩ 1 1 [.string nm, .string va] rfl rfl (by exact World.news_of_block (cs := #[.string nm, .string va]) (heap_alloc_new _ _)) (by simp [Value.oneCell']) (by omega) (by simp [maxLen]; omega) (by omega) (by simp; omega) (wr.heap.size + 1) (by simp) ?_; intro g5 cap5 w5 hown5 hgrow5 hat5 hlt5)
          have hB5 : Below w.heap.size w w5 := (bto hbel (bnew _ _)).grown hgrow5 (by simp; omega) (fun q hq => row_from HROW.out q hq)
          have hle : (acc ++ [(⟨nm, va⟩ : LabD)]).length = acc.length + 1 := by simp
          have hxs : flatL acc ++ [.string nm, .string va] = flatL (acc ++ [⟨nm, va⟩]) := by rw [flatL_append]; rfl
          rw [hxs, ← hle] at hown5
          refine ⟨⟨acc ++ [(⟨nm, va⟩ : LabD)], (q2 : Nat), g5, cap5, rfl, by rw [hle], by omega, by omega, by omega, ⟨big_snoc HR.out.1 ⟨by simp only; omega, by simp only; omega⟩, HRO.out⟩, hown5, hB5⟩, by simp only [lenOf]; omega⟩
    · have hex := readOf_end HR.out.2 (by omega)
      obtain ⟨hcv, _, _, _⟩ := row_cells HROW.out
      have HL : Hid (LabsOwn wr w.heap.size (some ⟨g, 0, none⟩) acc) := labs_of_row HROW.out
      have HK : Hid (Calls Tryz.prog 86 #[.slice (some ⟨g, 0, none⟩) acc.length cv] wr fun e w' => e = .returned (.string (keyV acc)) ∧ Below wr.heap.size wr w') := specKey_any _ cv acc wr HL.out.labs HR.out.1 (by omega) hcv
      have HE0 : Hid (key.toList.isEmpty = decide (key.size = 0)) := by
        show _ = _
        rw [ByteArray.toList_eq, bsize]
        cases key.data.toList <;> simp
      have hEx : (decV key = (acc, true) ∧ key.toList.isEmpty = false ∧ ((keyV acc).toList == key.toList) = true) ∨ (decV key = ([], false) ∧ key.toList.isEmpty = true) ∨ (decV key = ([], false) ∧ key.toList.isEmpty = false ∧ ((keyV acc).toList == key.toList) = false) := by
        rcases hex with ⟨h1, h2, h3⟩ | ⟨h1, h2⟩
        · left
          refine ⟨h1, ?_, ?_⟩
          · rw [HE0.out]; exact decide_eq_false (by omega)
          · rw [h2]; simp
        · by_cases hz : key.size = 0
          · right; left
            exact ⟨h1, by rw [HE0.out]; exact decide_eq_true hz⟩
          · right; right
            refine ⟨h1, by rw [HE0.out]; exact decide_eq_false hz, ?_⟩
            rw [← Bool.not_eq_true]
            intro hb
            rcases h2 with h2 | h2
            · exact hz h2
            · exact h2 (toList_inj (by simpa using hb))
      have hgd : pI ≤ 0 ∨ (0 < pI ∧ (key.size : Int) ≤ pI) ∨ (0 < pI ∧ pI < (key.size : Int) ∧ (16 : Int) < (acc.length : Nat)) := by omega
      clear hex HROW hgo HE0
      generalize keyV acc = KV at *
      rcases hEx with ⟨h1, h2, h3⟩ | ⟨h1, h2⟩ | ⟨h1, h2, h3⟩
      · have E : Hid (decV key = (acc, true)) := h1
        clear h1
        rcases hgd with hg | ⟨hg, hg'⟩ | ⟨hg, hg', hg''⟩
        all_goals
          go_wp2_with fail
          refine HK.out.mono ?_
          rintro e w2 ⟨rfl, hb2⟩
          have H2 : Hid (LabsOwn w2 w.heap.size (some ⟨g, 0, none⟩) acc ∧ Below w.heap.size w w2) := ⟨HL.out.later hb2, bto hbel hb2⟩
          clear hb2
          go_wp2
          refine bodyPost_ret (v := .tuple #[.slice (some ⟨g, 0, none⟩) acc.length cv, .bool true]) (by simp [results, Tryz.results56, go_sem]) rfl ⟨some ⟨g, 0, none⟩, cv, ?_, ?_, H2.out.2⟩
          · rw [E.out]
          · rw [E.out]; exact H2.out.1
      · have E : Hid (decV key = ([], false)) := h1
        clear h1
        rcases hgd with hg | ⟨hg, hg'⟩ | ⟨hg, hg', hg''⟩
        all_goals
          go_wp2
          refine bodyPost_ret (v := .tuple #[.slice (some ⟨wr.heap.size, 0, none⟩) 0 0, .bool false]) (by simp [results, Tryz.results56, go_sem]) rfl ?_
          first
            | exact ⟨some ⟨wr.heap.size, 0, none⟩, 0, by rw [E.out]; rfl, by rw [E.out]; exact Or.inl rfl, bto hbel (bnew _ _)⟩
            | exact ⟨some ⟨wr.heap.size, 0, none⟩, ⟨0, by rw [E.out]; rfl⟩, by rw [E.out]; exact Or.inl rfl, bto hbel (bnew _ _)⟩
            | exact ⟨⟨some ⟨wr.heap.size, 0, none⟩, ⟨0, by rw [E.out]; rfl⟩, by rw [E.out]; exact Or.inl rfl⟩, bto hbel (bnew _ _)⟩
            | exact ⟨⟨some ⟨wr.heap.size, 0, none⟩, 0, by rw [E.out]; rfl, by rw [E.out]; exact Or.inl rfl⟩, bto hbel (bnew _ _)⟩
      · have E : Hid (decV key = ([], false)) := h1
        clear h1
        rcases hgd with hg | ⟨hg, hg'⟩ | ⟨hg, hg', hg''⟩
        all_goals
          go_wp2_with fail
          refine HK.out.mono ?_
          rintro e w2 ⟨rfl, hb2⟩
          have H2 : Hid (Below w.heap.size w w2) := bto hbel hb2
          clear hb2
          go_wp2
          refine bodyPost_ret (v := .tuple #[.slice (some ⟨w2.heap.size, 0, none⟩) 0 0, .bool false]) (by simp [results, Tryz.results56, go_sem]) rfl ⟨some ⟨w2.heap.size, 0, none⟩, 0, ?_, ?_, bto H2.out (bnew _ _)⟩
          · rw [E.out]; rfl
          · rw [E.out]; exact Or.inl rfl
end Go.Proofs.YtojeemogabhaoaaGreatDoor
namespace Go.Proofs.YtojeemogabhaoaaGreatDoor
open Go.RowKit
theorem dec_short' (key : ByteArray) : (decV key).1.length ≤ 16 := by
  cases hd : (decV key).2 with
  | true => exact can_le (dec_key hd).1
  | false => rw [(dec_not hd).1]; simp
set_option maxRecDepth 100000 in
theorem implMet_any (key : ByteArray) (w : World) (hs : key.size ≤ 1000000000) (hT : UTab w) :
    Calls Tryz.prog 111 #[.string key] w fun e w' => e = .returned (.string (metV (decV key).1)) ∧ Below w.heap.size w w' := by
  have hl := dec_short' key
  have HI : Hid (Calls Tryz.prog 124 #[.string key] w fun e w' => ∃ a cap, e = .returned (.tuple #[.slice a (decV key).1.length cap, .bool (decV key).2]) ∧ LabsOwn w' w.heap.size a (decV key).1 ∧ Below w.heap.size w w') := implDec_any key w hs hT
  clear hT
  generalize (decV key).1 = L at *
  generalize (decV key).2 = p at *
  generalize hM : metV L = M
  have EM : Hid (metV L = M) := hM
  clear hM
  go_enter Tryz.func111, Tryz.ntmps111
  go_wp2_with fail
  refine HI.out.mono ?_
  rintro e w1 ⟨a, cap, rfl, hl1, hb1⟩
  have HM : Hid (Calls Tryz.prog 125 #[.slice a L.length cap] w1 fun e w' => e = .returned (.string M) ∧ Below w1.heap.size w1 w') := by
    have := metricOf_any a cap L w1 hl1.labs (by omega)
    rw [EM.out] at this
    exact this
  have B1 : Hid (Below w.heap.size w w1) := hb1
  clear hl1 hb1 HI
  go_wp2_with fail
  refine HM.out.mono ?_
  rintro e w2 ⟨rfl, hb2⟩
  have B2 : Hid (Below w.heap.size w w2) := bto B1.out hb2
  clear hb2
  go_wp2
  go_ret
  exact ⟨rfl, B2.out⟩
set_option maxRecDepth 100000 in
set_option maxHeartbeats 1000000 in
theorem specMet_any (key : ByteArray) (w : World) (hs : key.size ≤ 1000000000) :
    Calls Tryz.prog 57 #[.string key] w fun e w' => e = .returned (.string (metV (decV key).1)) ∧ Below w.heap.size w w' := by
  have hl := dec_short' key
  have HI : Hid (Calls Tryz.prog 56 #[.string key] w fun e w' => ∃ a cap, e = .returned (.tuple #[.slice a (decV key).1.length cap, .bool (decV key).2]) ∧ LabsOwn w' w.heap.size a (decV key).1 ∧ Below w.heap.size w w') := specDec_any key w hs
  generalize (decV key).1 = ls at *
  generalize (decV key).2 = p at *
  go_enter Tryz.func57, Tryz.ntmps57
  go_wp2_with fail
  refine HI.out.mono ?_
  rintro e w1 ⟨a, cap, rfl, hl1, hb1⟩
  have HF : Hid (LabsIn w1 a ls) := hl1.labs
  have B1 : Hid (Below w.heap.size w w1) := hb1
  clear hl1 hb1 HI
  go_wp2
  go_loopw [6, 14] (fun _ i wr => ∃ k : Nat, k ≤ ls.length ∧ i = .int .i64 k ∧ Hid (metV ls = metV (ls.drop k)) ∧ Below w1.heap.size w1 wr) (fun _ i _ => ls.length - (intOf i).toNat)
  case atStart => exact ⟨0, Nat.zero_le _, rfl, rfl, Below.refl _ _⟩
  case round =>
    obtain ⟨k, hk, rfl, HK, hbel⟩ := hrel
    by_cases hlt : k < ls.length
    · obtain ⟨b, o, rfl, hb, c0, c1⟩ := (HF.out.later hbel).at hlt
      have HS := metV_step ls k hlt
      have HM : Hid (isMet ls[k] = (ls[k].name.toList == [95, 95, 110, 97, 109, 101, 95, 95])) := by show _ = _; rw [isMet, mname_list]
      generalize ls[k].name = nm at *
      by_cases hm : isMet ls[k] = true
      · have hmb : (nm.toList == [95, 95, 110, 97, 109, 101, 95, 95]) = true := by rw [← HM.out]; exact hm
        have E : Hid (metV ls = ls[k].value) := by show _ = _; rw [HK.out, HS, if_pos hm]
        clear HS hm
        generalize ls[k].value = va at *
        go_wp2
        go_ret
        exact ⟨by rw [E.out]; rfl, bto B1.out (bto hbel (bnew _ _))⟩
      · have hmb : (nm.toList == [95, 95, 110, 97, 109, 101, 95, 95]) = false := by rw [← HM.out]; simpa using hm
        have E : Hid (metV ls = metV (ls.drop (k + 1))) := by show _ = _; rw [HK.out, HS, if_neg hm]
        clear HS hm
        generalize ls[k].value = va at *
        go_wp2
        exact ⟨⟨k + 1, by omega, by go_num, E.out, bto hbel (bnew _ _)⟩, by simp [intOf]; omega⟩
    · have E : Hid (metV ls = ByteArray.empty) := by
        show _ = _
        rw [HK.out, List.drop_of_length_le (by omega)]; rfl
      go_wp2
      go_ret
      exact ⟨by rw [E.out]; rfl, bto B1.out hbel⟩
end Go.Proofs.YtojeemogabhaoaaGreatDoor
