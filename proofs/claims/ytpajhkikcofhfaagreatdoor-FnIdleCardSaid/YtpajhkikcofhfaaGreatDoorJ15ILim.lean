import Derived.Test.YtpajhkikcofhfaaGreatDoorProg
import Derived.Test.YtpajhkikcofhfaaGreatDoorJ04StaL
import Derived.Test.YtpajhkikcofhfaaGreatDoorJ12SS8
import Derived.Test.YtpajhkikcofhfaaGreatDoorJ14SCanon
import Derived.Test.YtpajhkikcofhfaaGreatDoorJ11ICanon
import Derived.Test.YtpajhkikcofhfaaGreatDoorJ09IntsL
import Derived.Test.YtpajhkikcofhfaaGreatDoorJ10SName
import Derived.Test.YtpajhkikcofhfaaGreatDoorJ07IdxA
import Derived.Deep.DeepCutAuto
namespace Go.Proofs.YtpajhkikcofhfaaGreatDoor
open Go.RowKit

set_option maxRecDepth 100000 in
set_option maxHeartbeats 1000000 in
theorem l3Same_any (a a' : Option Addr) (cap cap' : Nat) (xs ys : List LabD) (w : World) (hf : LabsIn w a xs) (hf' : LabsIn w a' ys) (hx : xs.length ≤ 2000000) :
    Calls Tryz.prog 17 #[.slice a xs.length cap, .slice a' ys.length cap'] w fun e w' => e = .returned (.bool (sameLs xs ys)) ∧ Below w.heap.size w w' := by
  have HF : Hid (LabsIn w a xs) := hf
  have HF' : Hid (LabsIn w a' ys) := hf'
  clear hf hf'
  by_cases hl : xs.length = ys.length
  · have hlb : ((xs.length : Int) != (ys.length : Int)) = false := by simp [hl]
    have HL : Hid (xs.length = ys.length) := hl
    have hyx : ys.length ≤ xs.length ∧ xs.length ≤ ys.length := by omega
    obtain ⟨hyx1, hyx2⟩ := hyx
    clear hl
    go_enter Tryz.func17, Tryz.ntmps17
    go_wp2
    go_loopw [5, 13] (fun _ i wr => ∃ k : Nat, k ≤ xs.length ∧ i = .int .i64 k ∧ Hid (sameLs xs ys = sameLs (xs.drop k) (ys.drop k)) ∧ Below w.heap.size w wr) (fun _ i _ => xs.length - (intOf i).toNat)
    case atStart => exact ⟨0, Nat.zero_le _, rfl, rfl, Below.refl _ _⟩
    case round =>
      obtain ⟨k, hk, rfl, HK, hbel⟩ := hrel
      by_cases hlt : k < xs.length
      · have hlt' : k < ys.length := by omega
        obtain ⟨b, o, rfl, hb, c0, c1⟩ := (HF.out.later hbel).at hlt
        obtain ⟨b', o', rfl, hb', c0', c1'⟩ := (HF'.out.later hbel).at hlt'
        have HS := sameLs_drop xs ys k hlt hlt'
        have hne0 : ∀ W, Sem.run Tryz.prog (binOp .neq 57 (.agg #[.string xs[k].name, .string xs[k].value]) (.agg #[.string ys[k].name, .string ys[k].value])) W = .ok (.bool (!eqLabB xs[k] ys[k])) W := fun W => neqL.1 xs[k] ys[k] W
        have hgd0 : ∀ (op : BinOp) (p q : Operand) (W : World), Sem.run Tryz.prog (eqGuard op 57 p q (.agg #[.string xs[k].name, .string xs[k].value]) (.agg #[.string ys[k].name, .string ys[k].value])) W = .ok () W := fun op p q W => neqL.2 op p q xs[k] ys[k] W
        have d0 := Later.cells c0
        have d1 := Later.cells c1
        have d0' := Later.cells c0'
        have d1' := Later.cells c1'
        clear c0 c1 c0' c1'
        have hne := Later.there wr
        cases he : eqLabB xs[k] ys[k] with
        | true =>
          have E : Hid (sameLs xs ys = sameLs (xs.drop (k + 1)) (ys.drop (k + 1))) := by show _ = _; rw [HK.out, HS, he, Bool.true_and]
          rw [he] at hne0
          clear HS he
          generalize xs[k].name = n1 at *
          generalize xs[k].value = v1 at *
          generalize ys[k].name = n2 at *
          generalize ys[k].value = v2 at *
          go_wp2_with fail
          refine wp_region_later (by kernel_rfl) (by kernel_rfl) ?_
          repeat (go_big_quiet_step (fail))
          refine wpQuiet_nil ?_
          rintro _ ⟨x, rfl⟩
          have HX : Hid (Below w.heap.size w x.w') := bto hbel x.h
          clear d0 d1 d0' d1' hne
          generalize x.w' = W2 at *
          clear x
          go_wp2
          exact ⟨⟨k + 1, by omega, by go_num, E.out, HX.out⟩, by simp [intOf]; omega⟩
        | false =>
          have E : Hid (sameLs xs ys = false) := by show _ = _; rw [HK.out, HS, he, Bool.false_and]
          rw [he] at hne0
          clear HS he
          generalize xs[k].name = n1 at *
          generalize xs[k].value = v1 at *
          generalize ys[k].name = n2 at *
          generalize ys[k].value = v2 at *
          go_wp2_with fail
          refine wp_region_later (by kernel_rfl) (by kernel_rfl) ?_
          repeat (go_big_quiet_step (fail))
          refine wpQuiet_nil ?_
          rintro _ ⟨x, rfl⟩
          have HX : Hid (Below w.heap.size w x.w') := bto hbel x.h
          clear d0 d1 d0' d1' hne
          generalize x.w' = W2 at *
          clear x
          go_wp2
          go_ret
          exact ⟨ret_bool E.out.symm, HX.out⟩
      · have E : Hid (sameLs xs ys = true) := by
          show _ = _
          rw [HK.out, List.drop_of_length_le (by omega), List.drop_of_length_le (by omega)]; rfl
        go_wp2
        go_ret
        exact ⟨ret_bool E.out.symm, hbel⟩
  · have hlb : ((xs.length : Int) != (ys.length : Int)) = true := by simp; omega
    have E : Hid (sameLs xs ys = false) := sameLs_len hl
    go_enter Tryz.func17, Tryz.ntmps17
    go_wp2
    go_ret
    exact ⟨ret_bool E.out.symm, Below.refl _ _⟩

set_option maxRecDepth 100000 in
set_option maxHeartbeats 1000000 in
theorem specKey_any (a : Option Addr) (cap : Nat) (ls : List LabD) (w : World) (hf : LabsIn w a ls) (hB : BigS ls) (hlen : ls.length ≤ 2000000) (hcap : ls.length ≤ cap) :
    Calls Tryz.prog 6 #[.slice a ls.length cap] w fun e w' => e = .returned (.string (keyV ls)) ∧ Below w.heap.size w w' := by
  have HC : Hid (Calls Tryz.prog 5 #[.slice a ls.length cap] w fun e w' => CanonOut e w w' (canonR ls).1 (canonR ls).2.1 (canonR ls).2.2) := specCanon_any a cap ls w hf hB hlen hcap
  have HF : Hid (LabsIn w a ls) := hf
  have HB : Hid (BigS ls) := hB
  have hcl := canon_len0 ls
  unfold CanonOut at HC
  clear hf hB
  by_cases h0 : (canonR ls).2.1 = 0
  · have h0b : (((canonR ls).2.1 : Int) != 0) = false := by simp; omega
    have HSM : Hid (∀ W af cf, LabsIn W af (canonR ls).1 → LabsIn W a ls → Calls Tryz.prog 17 #[.slice af (canonR ls).1.length cf, .slice a ls.length cap] W fun e w' => e = .returned (.bool (sameLs (canonR ls).1 ls)) ∧ Below W.heap.size W w') := fun W af cf h1 h2 => l3Same_any af a cf cap _ ls W h1 h2 (by omega)
    by_cases hs : sameLs (canonR ls).1 ls = true
    · have hcan : canB ls = true := by unfold canB; rw [h0, hs]; rfl
      have E : Hid (keyV ls = keyB ls) := by show _ = _; rw [keyV, if_pos hcan]
      have h16 := can_le hcan
      have HNU : Hid (∀ W, Calls Tryz.prog 18 #[.int .i64 1, .int .i64 (ls.length : Nat)] W fun e w' => e = .returned (.string (numS 1 (ls.length : Nat))) ∧ Below W.heap.size W w') := fun W => specNum_any 1 (ls.length : Nat) W (by omega) (by omega) (by omega)
      have hz1 := numS_size 1 (ls.length : Nat)
      have HKB : Hid (keyB ls = numS 1 (ls.length : Nat) ++ tailB ls) := rfl
      have HSS : Hid (sameLs (canonR ls).1 ls = true) := hs
      clear h0 hs hcan
      generalize (canonR ls).1 = C at *
      generalize (canonR ls).2.1 = c1 at *
      generalize (canonR ls).2.2 = c2 at *
      generalize numS 1 (ls.length : Nat) = NB at *
      go_enter Tryz.func6, Tryz.ntmps6
      go_wp2_with fail
      refine HC.out.mono ?_
      rintro e w1 ⟨af, cf, rfl, hof, hb1⟩
      have B1 : Hid (Below w.heap.size w w1) := hb1
      have O1 : Hid (LabsIn w1 af C ∧ LabsIn w1 a ls) := ⟨hof.labs, HF.out.later hb1⟩
      clear hof hb1 HC
      go_wp2_with fail
      refine (HSM.out _ _ _ O1.out.1 O1.out.2).mono ?_
      rintro e w2 ⟨rfl, hb2⟩
      rw [HSS.out]
      have B2 : Hid (Below w.heap.size w w2) := bto B1.out hb2
      clear hb2 O1 B1
      go_wp2_with fail
      refine (HNU.out _).mono ?_
      rintro e w3 ⟨rfl, hb3⟩
      have B3 : Hid (Below w.heap.size w w3) := bto B2.out hb3
      clear hb3 B2
      go_wp2
      go_loopw [6, 8, 28] (fun out _ i wr => ∃ (k : Nat) (st : ByteArray), k ≤ ls.length ∧ i = .int .i64 k ∧ out = .string st ∧ st.size ≤ 1 + k * 3000000000 ∧ Hid (st = NB ++ tailB (ls.take k)) ∧ Below w.heap.size w wr) (fun _ _ i _ => ls.length - (intOf i).toNat)
      case atStart => exact ⟨0, NB, Nat.zero_le _, rfl, rfl, by omega, by show _ = _; simp [tailB], B3.out⟩
      case round =>
        obtain ⟨k, st, hk, rfl, rfl, hst, HST, hbel⟩ := hrel
        by_cases hlt : k < ls.length
        · obtain ⟨b, o, rfl, hb, c0, c1⟩ := (HF.out.later hbel).at hlt
          obtain ⟨hs1, hs2⟩ := HB.out k hlt
          have HS8 : Hid (∀ W, Calls Tryz.prog 19 #[.string ls[k].name] W fun e w' => e = .returned (.string (s8B ls[k].name)) ∧ Below W.heap.size W w') := fun W => specS8_any ls[k].name W hs1
          have HS16 : Hid (∀ W, Calls Tryz.prog 20 #[.string ls[k].value] W fun e w' => e = .returned (.string (s16B ls[k].value)) ∧ Below W.heap.size W w') := fun W => specS16_any ls[k].value W hs2
          have hz8 := s8B_size ls[k].name
          have hz16 := s16B_size ls[k].value
          have HT := tailB_take ls k hlt
          have E2 : Hid (st ++ (s8B ls[k].name ++ s16B ls[k].value) = NB ++ tailB (ls.take (k + 1))) := by show _ = _; rw [HT, HST.out, ByteArray.append_assoc]
          clear HT
          generalize s8B ls[k].name = S8 at *
          generalize s16B ls[k].value = S16 at *
          generalize ls[k].name = nm at *
          generalize ls[k].value = va at *
          have hz816 : (S8 ++ S16).size = S8.size + S16.size := ByteArray.size_append
          have hzst : (st ++ (S8 ++ S16)).size = st.size + (S8.size + S16.size) := by rw [ByteArray.size_append, hz816]
          have d0 : ∀ x : Later (wr.alloc (.cells #[.string nm, .string va] 57)), x.w'.cell? ⟨wr.heap.size, 0, none⟩ = some (.string nm) := Later.cells (by simp)
          have d1 : ∀ x : Later (wr.alloc (.cells #[.string nm, .string va] 57)), x.w'.cell? ⟨wr.heap.size, 1, none⟩ = some (.string va) := Later.cells (by simp)
          have hne := Later.there (wr.alloc (.cells #[.string nm, .string va] 57))
          have hnb : ¬ b = wr.heap.size := by omega
          go_wp2_with fail
          refine wp_region_later (by kernel_rfl) (by kernel_rfl) ?_
          repeat (go_big_quiet_step (first | (go_at_call 19; exact calls_later (HS8.out _)) | (go_at_call 20; exact calls_later (HS16.out _))))
          refine wpQuiet_nil ?_
          rintro _ ⟨x, rfl⟩
          have HX : Hid (Below w.heap.size w x.w') := bto (bto hbel (bnew _ _)) x.h
          clear d0 d1 hne
          generalize x.w' = W2 at *
          clear x
          go_wp2
          exact ⟨⟨k + 1, st ++ (S8 ++ S16), by omega, by go_num, rfl, by omega, E2.out, HX.out⟩, by simp [intOf]; omega⟩
        · have E2 : Hid (st = keyV ls) := by
            show _ = _
            rw [E.out, HKB.out, HST.out, List.take_of_length_le (by omega)]
          go_wp2
          go_ret
          exact ⟨by rw [← E2.out]; rfl, hbel⟩
    · have hs' : sameLs (canonR ls).1 ls = false := by simpa using hs
      have E : Hid (keyV ls = ByteArray.empty) := by
        show _ = _
        rw [keyV, if_neg]
        unfold canB
        rw [hs', Bool.and_false]
        simp
      have HSS : Hid (sameLs (canonR ls).1 ls = false) := hs'
      clear h0 hs hs'
      generalize (canonR ls).1 = C at *
      generalize (canonR ls).2.1 = c1 at *
      generalize (canonR ls).2.2 = c2 at *
      go_enter Tryz.func6, Tryz.ntmps6
      go_wp2_with fail
      refine HC.out.mono ?_
      rintro e w1 ⟨af, cf, rfl, hof, hb1⟩
      have B1 : Hid (Below w.heap.size w w1) := hb1
      have O1 : Hid (LabsIn w1 af C ∧ LabsIn w1 a ls) := ⟨hof.labs, HF.out.later hb1⟩
      clear hof hb1 HC
      go_wp2_with fail
      refine (HSM.out _ _ _ O1.out.1 O1.out.2).mono ?_
      rintro e w2 ⟨rfl, hb2⟩
      rw [HSS.out]
      have B2 : Hid (Below w.heap.size w w2) := bto B1.out hb2
      clear hb2 O1 B1
      go_wp2
      go_ret
      exact ⟨by rw [E.out]; rfl, B2.out⟩
  · have h0b : (((canonR ls).2.1 : Int) != 0) = true := by simp; omega
    have E : Hid (keyV ls = ByteArray.empty) := by
      show _ = _
      rw [keyV, if_neg]
      unfold canB
      rw [decide_eq_false h0]
      simp
    clear h0
    generalize (canonR ls).1 = C at *
    generalize (canonR ls).2.1 = c1 at *
    generalize (canonR ls).2.2 = c2 at *
    go_enter Tryz.func6, Tryz.ntmps6
    go_wp2_with fail
    refine HC.out.mono ?_
    rintro e w1 ⟨af, cf, rfl, hof, hb1⟩
    have B1 : Hid (Below w.heap.size w w1) := hb1
    clear hof hb1 HC
    go_wp2
    go_ret
    exact ⟨by rw [E.out]; rfl, B1.out⟩
end Go.Proofs.YtpajhkikcofhfaaGreatDoor

namespace Go.Proofs.YtpajhkikcofhfaaGreatDoor
open Go.RowKit

def lenOf : Value → Nat
  | .slice _ n _ => n
  | _ => 0
/-- What has been read of the key, if it is the key of ls. -/
def ReadOf (key : ByteArray) (acc : List LabD) (at_ : Int) : Prop := ∀ ls, canB ls = true → keyB ls = key → acc.length ≤ ls.length ∧ acc = ls.take acc.length ∧ at_ = ((1 + (tailB acc).size : Nat) : Int)

theorem tail_list (l : LabD) (r : List LabD) : (tailB (l :: r)).data.toList = (numS 1 (l.name.size : Nat)).data.toList ++ (l.name.data.toList ++ ((numS 2 (l.value.size : Nat)).data.toList ++ (l.value.data.toList ++ (tailB r).data.toList))) := by
  simp [tailB, s8B, s16B]
theorem key_split (ls : List LabD) (k : Nat) (h : k < ls.length) : (keyB ls).data.toList = ((numS 1 (ls.length : Nat)).data.toList ++ (tailB (ls.take k)).data.toList) ++ (tailB (ls[k] :: ls.drop (k + 1))).data.toList := by
  have e : tailB ls = tailB (ls.take k) ++ tailB (ls[k] :: ls.drop (k + 1)) := by
    rw [← tailB_append, ← List.drop_eq_getElem_cons h, List.take_append_drop]
  rw [keyB, e]
  simp
theorem pre_len (ls : List LabD) (k : Nat) : ((numS 1 (ls.length : Nat)).data.toList ++ (tailB (ls.take k)).data.toList).length = 1 + (tailB (ls.take k)).size := by
  rw [List.length_append, ← bsize, ← bsize, numS_size]
theorem part_name {ls : List LabD} (hc : canB ls = true) (k : Nat) (h : k < ls.length) : partN (keyB ls) (1 + (tailB (ls.take k)).size) 1 = some (ls[k].name, 1 + (tailB (ls.take k)).size + 1 + ls[k].name.size) := by
  have hs := can_small hc k h
  refine part_at (post := (numS 2 (ls[k].value.size : Nat)).data.toList ++ (ls[k].value.data.toList ++ (tailB (ls.drop (k + 1))).data.toList)) ?_ (pre_len ls k) (by omega)
  rw [key_split ls k h, tail_list]
theorem part_value {ls : List LabD} (hc : canB ls = true) (k : Nat) (h : k < ls.length) : partN (keyB ls) (1 + (tailB (ls.take k)).size + 1 + ls[k].name.size) 2 = some (ls[k].value, 1 + (tailB (ls.take k)).size + 1 + ls[k].name.size + 2 + ls[k].value.size) := by
  have hs := can_small hc k h
  refine part_at (pre := ((numS 1 (ls.length : Nat)).data.toList ++ (tailB (ls.take k)).data.toList) ++ ((numS 1 (ls[k].name.size : Nat)).data.toList ++ ls[k].name.data.toList)) (post := (tailB (ls.drop (k + 1))).data.toList) ?_ ?_ (by omega)
  · rw [key_split ls k h, tail_list]
    simp only [List.append_assoc]
  · rw [List.length_append, pre_len, List.length_append, ← bsize, ← bsize, numS_size]
    omega
theorem tail_size (ls : List LabD) (k : Nat) (h : k < ls.length) : (tailB (ls.take (k + 1))).size = (tailB (ls.take k)).size + 1 + ls[k].name.size + 2 + ls[k].value.size := by
  rw [tailB_take ls k h, ByteArray.size_append, ByteArray.size_append, s8B_size, s16B_size]
  omega
theorem tail_mono (ls : List LabD) (k : Nat) : (tailB (ls.take k)).size ≤ (tailB ls).size := by
  have e : tailB ls = tailB (ls.take k) ++ tailB (ls.drop k) := by rw [← tailB_append, List.take_append_drop]
  rw [e, ByteArray.size_append]
  omega
theorem key_size (ls : List LabD) : (keyB ls).size = 1 + (tailB ls).size := by rw [keyB, ByteArray.size_append, numS_size]

theorem readOf_start (key : ByteArray) : ReadOf key [] 1 := fun ls _ _ => ⟨Nat.zero_le _, by simp, rfl⟩
/-- If it is a key, there is a label to be read. -/
theorem readOf_more {key : ByteArray} {acc : List LabD} {p : Nat} (h : ReadOf key acc (p : Nat)) (hp : p < key.size) : ∀ ls, canB ls = true → keyB ls = key → ∃ hk : acc.length < ls.length, partN key p 1 = some (ls[acc.length].name, p + 1 + ls[acc.length].name.size) ∧ partN key (p + 1 + ls[acc.length].name.size) 2 = some (ls[acc.length].value, p + 1 + ls[acc.length].name.size + 2 + ls[acc.length].value.size) := by
  intro ls hc hk
  obtain ⟨h1, h2, h3⟩ := h ls hc hk
  have hpe : p = 1 + (tailB acc).size := by omega
  have hlt : acc.length < ls.length := by
    rcases Nat.lt_or_ge acc.length ls.length with hlt | hge
    · exact hlt
    · exfalso
      have e : acc = ls := by rw [h2]; exact List.take_of_length_le (by omega)
      have := key_size ls
      rw [hk] at this
      rw [e] at hpe
      omega
  refine ⟨hlt, ?_, ?_⟩
  · have := part_name hc acc.length hlt
    rw [← h2, hk, ← hpe] at this
    exact this
  · have := part_value hc acc.length hlt
    rw [← h2, hk, ← hpe] at this
    exact this
theorem readOf_some {key : ByteArray} {acc : List LabD} {p : Nat} (h : ReadOf key acc (p : Nat)) (hp : p < key.size) {nm va : ByteArray} {q q2 : Nat} (e1 : partN key p 1 = some (nm, q)) (e2 : partN key q 2 = some (va, q2)) : ReadOf key (acc ++ [⟨nm, va⟩]) (q2 : Nat) := by
  intro ls hc hk
  obtain ⟨hlt, g1, g2⟩ := readOf_more h hp ls hc hk
  obtain ⟨h1, h2, h3⟩ := h ls hc hk
  rw [e1] at g1
  simp only [Option.some.injEq, Prod.mk.injEq] at g1
  obtain ⟨rfl, rfl⟩ := g1
  rw [e2] at g2
  simp only [Option.some.injEq, Prod.mk.injEq] at g2
  obtain ⟨rfl, rfl⟩ := g2
  have hl : (acc ++ [(⟨ls[acc.length].name, ls[acc.length].value⟩ : LabD)]).length = acc.length + 1 := by simp
  have ht : acc ++ [(⟨ls[acc.length].name, ls[acc.length].value⟩ : LabD)] = ls.take (acc.length + 1) := by
    rw [List.take_succ_eq_append_getElem hlt, ← h2]
  refine ⟨by rw [hl]; omega, by rw [hl]; exact ht, ?_⟩
  rw [ht, tail_size ls acc.length hlt, ← h2]
  have hpe : p = 1 + (tailB acc).size := by omega
  congr 1
  omega
theorem readOf_none {key : ByteArray} {acc : List LabD} {p : Nat} (h : ReadOf key acc (p : Nat)) (hp : p < key.size) (hn : partN key p 1 = none ∨ ∃ nm q, partN key p 1 = some (nm, q) ∧ partN key q 2 = none) (acc' : List LabD) (a' : Int) : ReadOf key acc' a' := by
  intro ls hc hk
  exfalso
  obtain ⟨hlt, g1, g2⟩ := readOf_more h hp ls hc hk
  rcases hn with hn | ⟨nm, q, hn1, hn2⟩
  · rw [hn] at g1; exact absurd g1 (by simp)
  · rw [hn1] at g1
    simp only [Option.some.injEq, Prod.mk.injEq] at g1
    obtain ⟨rfl, rfl⟩ := g1
    rw [hn2] at g2
    exact absurd g2 (by simp)
/-- What has been read where the reading ends. -/
theorem readOf_end {key : ByteArray} {acc : List LabD} {a : Int} (h : ReadOf key acc a) (he : a ≤ 0 ∨ (key.size : Int) ≤ a ∨ 16 < acc.length) :
    (decV key = (acc, true) ∧ keyV acc = key ∧ 0 < key.size) ∨ (decV key = ([], false) ∧ (key.size = 0 ∨ keyV acc ≠ key)) := by
  cases hd : (decV key).2 with
  | true =>
    obtain ⟨hc, hk⟩ := dec_key hd
    obtain ⟨h1, h2, h3⟩ := h _ hc hk
    have h16 := can_le hc
    have hkz := key_size (decV key).1
    rw [hk] at hkz
    have e : acc = (decV key).1 := by
      rcases Nat.lt_or_ge acc.length (decV key).1.length with hlt | hge
      · exfalso
        have ht := tail_size (decV key).1 acc.length hlt
        have hm := tail_mono (decV key).1 (acc.length + 1)
        rw [← h2] at ht
        omega
      · rw [h2]; exact List.take_of_length_le (by omega)
    left
    refine ⟨?_, ?_, by omega⟩
    · rw [e]
      cases hdk : decV key with
      | mk x y => rw [hdk] at hd; simp only at hd ⊢; rw [hd]
    · rw [e, keyV, if_pos hc, hk]
  | false =>
    obtain ⟨h1, h2⟩ := dec_not hd
    right
    refine ⟨h1, ?_⟩
    by_cases hz : key.size = 0
    · exact Or.inl hz
    · right
      intro hk
      unfold keyV at hk
      split at hk
      · rename_i hc; exact h2 acc hc hk
      · rw [← hk] at hz; exact hz rfl

theorem big_snoc {acc : List LabD} (h : BigS acc) {l : LabD} (hl : l.name.size ≤ 1000000000 ∧ l.value.size ≤ 1000000000) : BigS (acc ++ [l]) := fun i hi => by
  by_cases e : i < acc.length
  · rw [List.getElem_append_left e]; exact h i e
  · rw [List.getElem_append_right (by omega)]
    simpa using hl

end Go.Proofs.YtpajhkikcofhfaaGreatDoor

namespace Go.Proofs.YtpajhkikcofhfaaGreatDoor
open Go.RowKit

theorem dec_short' (key : ByteArray) : (decV key).1.length ≤ 16 := by
  cases hd : (decV key).2 with
  | true => exact can_le (dec_key hd).1
  | false => rw [(dec_not hd).1]; simp
set_option maxRecDepth 100000 in
theorem implMet_any (key : ByteArray) (w : World) (hs : key.size ≤ 1000000000) (hT : UTab w) :
    Calls Tryz.prog 11 #[.string key] w fun e w' => e = .returned (.string (metV (decV key).1)) ∧ Below w.heap.size w w' := by
  have hl := dec_short' key
  have HI : Hid (Calls Tryz.prog 28 #[.string key] w fun e w' => ∃ a cap, e = .returned (.tuple #[.slice a (decV key).1.length cap, .bool (decV key).2]) ∧ LabsOwn w' w.heap.size a (decV key).1 ∧ Below w.heap.size w w') := implDec_any key w hs hT
  clear hT
  generalize (decV key).1 = L at *
  generalize (decV key).2 = p at *
  generalize hM : metV L = M
  have EM : Hid (metV L = M) := hM
  clear hM
  go_enter Tryz.func11, Tryz.ntmps11
  go_wp2_with fail
  refine HI.out.mono ?_
  rintro e w1 ⟨a, cap, rfl, hl1, hb1⟩
  have HM : Hid (Calls Tryz.prog 29 #[.slice a L.length cap] w1 fun e w' => e = .returned (.string M) ∧ Below w1.heap.size w1 w') := by
    have := metricOf_any a cap L w1 hl1.labs (by omega)
    rw [EM.out] at this
    exact this
  have B1 : Hid (Below w.heap.size w w1) := hb1
  clear hl1 hb1 HI
  go_wp2_with fail
  refine HM.out.mono ?_
  rintro e w2 ⟨rfl, hb2⟩
  have B2 : Hid (Below w.heap.size w w2) := bto B1.out hb2
  clear hb2
  go_wp2
  go_ret
  exact ⟨rfl, B2.out⟩

end Go.Proofs.YtpajhkikcofhfaaGreatDoor

namespace Go.Proofs.YtpajhkikcofhfaaGreatDoor
open Go.RowKit

theorem okT_eq (c : UInt8) : okM [45] c = okT c := by
  have e : decide (0 ≤ Lib.indexByte [45] c) = (c == 45) := by
    by_cases h : c = 45
    · subst h; rfl
    · have h1 : ((45 : UInt8) == c) = false := by simpa using fun e => h e.symm
      have h2 : (c == 45) = false := by simpa using h
      simp [Lib.indexByte, h1, h2]
  rw [okM, okT, e]
theorem tname_plain (s : ByteArray) : plainB s 32 ⟨#[45]⟩ = tnameB s := by
  have e : okM [45] = okT := funext okT_eq
  rw [plainB, tnameB, e]
  congr 2
  rw [Bool.eq_iff_iff]; simp; omega

set_option maxRecDepth 100000 in
set_option maxHeartbeats 1000000 in
theorem isTenantName_any (s : ByteArray) (w : World) (hs : s.size ≤ maxLen) : Calls Tryz.prog 25 #[.string s] w fun e w' => e = .returned (.bool (tnameB s)) ∧ w' = w := by
  have H : Hid (∀ W, Calls Tryz.prog 52 #[.string s, .int .i64 32, .string ⟨#[45]⟩] W fun e w' => e = .returned (.bool (tnameB s)) ∧ w' = W) := fun W => tname_plain s ▸ isPlain_any s 32 ⟨#[45]⟩ W hs
  generalize tnameB s = R at *
  go_enter Tryz.func25, Tryz.ntmps25
  go_wp2_with fail
  refine (H.out _).mono ?_
  rintro e w' ⟨rfl, hw⟩
  replace hw := hw.symm
  subst hw
  go_wp2
  go_ret
  exact ⟨rfl, rfl⟩

theorem okT_iff (c : UInt8) : okT c = decide ((97 ≤ (c.toNat : Int) ∧ (c.toNat : Int) ≤ 122) ∨ (48 ≤ (c.toNat : Int) ∧ (c.toNat : Int) ≤ 57) ∨ (c.toNat : Int) = 45) := by
  have e45 : (c == 45) = decide (c.toNat = 45) := by rw [Bool.eq_iff_iff]; simp [← UInt8.toNat_inj]
  rw [Bool.eq_iff_iff]
  simp [okT, e45, UInt8.le_iff_toNat_le]
  omega
set_option maxRecDepth 100000 in
set_option maxHeartbeats 1000000 in
theorem isMetricName_any (s : ByteArray) (w : World) (hs : s.size ≤ 1000000000) (hT : UTab w) : Calls Tryz.prog 53 #[.string s] w fun e w' => e = .returned (.bool (mnameB s)) ∧ Below w.heap.size w w' := by
  have H : Hid (Calls Tryz.prog 74 #[.string s] w fun e w' => e = .returned (.int .i64 (valV s : Nat)) ∧ Below w.heap.size w w') := implVal_any s w hs hT
  have HV : Hid (mnameB s = (!s.toList.isEmpty && decide (valV s = 0))) := rfl
  clear hT
  generalize valV s = v at *
  by_cases h0 : s.toList.isEmpty = true
  · go_enter Tryz.func53, Tryz.ntmps53
    go_wp2
    go_ret
    exact ⟨ret_bool (by rw [HV.out, h0]; rfl), Below.refl _ _⟩
  · have h1 : s.toList.isEmpty = false := by simpa using h0
    clear h0
    go_enter Tryz.func53, Tryz.ntmps53
    go_wp2_with fail
    refine H.out.mono ?_
    rintro e w1 ⟨rfl, hb⟩
    go_wp2
    go_ret
    exact ⟨ret_bool (by rw [HV.out, h1]; rw [Bool.eq_iff_iff]; simp), hb⟩
theorem met_not {key : ByteArray} (h : (decV key).2 = false) : (metV (decV key).1).toList.isEmpty = true := by rw [(dec_not h).1]; simp [metV]
set_option maxHeartbeats 1000000 in
theorem isLimitOrNone_any (x : Int) (w : World) : Calls Tryz.prog 61 #[.int .i64 x] w fun e w' => e = .returned (.bool (btwB x (-1) 1000000)) ∧ w' = w := by
  by_cases h : x = -1
  · have E : Hid (btwB x (-1) 1000000 = true) := by show _ = _; subst h; rfl
    go_enter Tryz.func61, Tryz.ntmps61
    go_wp2_with (go_at_call 60; refine (isLimit_any _ _).mono ?_; rintro e w' ⟨rfl, rfl⟩)
    go_ret
    exact ⟨ret_bool E.out.symm, rfl⟩
  · have E : Hid (btwB x (-1) 1000000 = btwB x 0 1000000) := by
      show _ = _
      unfold btwB
      congr 1
      rw [Bool.eq_iff_iff]; simp; omega
    go_enter Tryz.func61, Tryz.ntmps61
    go_wp2_with (go_at_call 60; refine (isLimit_any _ _).mono ?_; rintro e w' ⟨rfl, rfl⟩)
    go_ret
    exact ⟨ret_bool (by rw [E.out]; have e : (x == -1) = false := by simpa using h
                        rw [e, Bool.false_or]), rfl⟩
end Go.Proofs.YtpajhkikcofhfaaGreatDoor

namespace Go.Proofs.YtpajhkikcofhfaaGreatDoor
open Go.RowKit Go.Maps

theorem mapOf_mets (ms : List PairD) (k : Nat) (hk : k < ms.length) (hr : RiseBy (·.s) (ms.take (k + 1))) :
    DataW.put (mapOf ((ms.take k).map fun p => (p.s, iVal p.n))) (kL ms[k].s) (iVal ms[k].n) = mapOf ((ms.take (k + 1)).map fun p => (p.s, iVal p.n)) := by
  obtain ⟨h1, _⟩ := ins_take hk hr
  have := put_by (key := fun p : PairD => p.s) (fun p => iVal p.n) ms[k] (rise_take k (l := ms.take (k + 1)) hr)
  rw [List.take_take, Nat.min_eq_left (by omega)] at this
  rw [this, h1]

set_option maxRecDepth 100000 in
set_option maxHeartbeats 4000000 in
theorem loadLimits_any (x : Nat) (a : Option Addr) (cap : Nat) (ms : List PairD) (t : TenD) (S : Nat → Prop) (M : Nat) (w0 w : World) (h : IdxAt w S x { t with mets := [] } M) (h0 : Below w0.heap.size w0 w) (hU : UTab w0) (hp : PairsIn w0 a ms) (hS : ∀ g, S g → w0.heap.size ≤ g) (hb : ∀ i (h : i < ms.length), ms[i].s.size ≤ 1000000000) (hl : ms.length ≤ 1000000000) :
    Calls Tryz.prog 63 #[.pointer (some ⟨x, 0, none⟩), .slice a ms.length cap] w fun e w' => e = .returned (.bool (metsB ms)) ∧ (metsB ms = true → IdxAt w' (fun g => S g ∨ w.heap.size ≤ g) x { t with mets := ms } M) ∧ Turn S w w' := by
  have HI : Hid (IdxAt w S x { t with mets := [] } M) := h
  have H0 : Hid (Below w0.heap.size w0 w) := h0
  have HU : Hid (UTab w0) := hU
  have HPI : Hid (PairsIn w0 a ms) := hp
  have HSS : Hid (∀ g, S g → w0.heap.size ≤ g) := hS
  have HBB : Hid (∀ i (h : i < ms.length), ms[i].s.size ≤ 1000000000) := hb
  clear h h0 hU hp hS hb
  go_enter Tryz.func63, Tryz.ntmps63
  go_wp2
  go_loopw [5, 6, 9] (fun _ _ j wr => ∃ k : Nat, k ≤ ms.length ∧ j = .int .i64 k ∧ allTo (metAt ms) k = true ∧ IdxAt wr (fun g => S g ∨ w.heap.size ≤ g) x { t with mets := ms.take k } M ∧ Turn S w wr) (fun _ _ j _ => ms.length - (intOf j).toNat)
  case atStart => exact ⟨0, Nat.zero_le _, rfl, rfl, HI.out.keep (fun g _ hs => ⟨rfl, Or.inl hs⟩), Turn.refl _ _⟩
  case round =>
    obtain ⟨k, hk, rfl, hok, hidx, htn⟩ := hrel
    have HOK : Hid (allTo (metAt ms) k = true) := hok
    have HIX : Hid (IdxAt wr (fun g => S g ∨ w.heap.size ≤ g) x { t with mets := ms.take k } M) := hidx
    have HTN : Hid (Turn S w wr) := htn
    have B0 : Hid (Below w0.heap.size w0 wr) := H0.out.trans (htn.below H0.out.size (fun k hk hs => by have := HSS.out k hs; omega))
    clear hok hidx htn
    by_cases hlt : k < ms.length
    · obtain ⟨pb, po, rfl, hpl, c0, c1⟩ := (HPI.out.later B0.out).at hlt
      have HMF : Hid (metAt ms k = false → metsB ms = false) := fun h => allTo_not h hlt
      have HMA : Hid (metAt ms k = (prevB ms k && mnameB ms[k].s && btwB ms[k].n 0 1000000)) := metAt_eq hlt
      have hsz := HBB.out k hlt
      have HPRE : Hid (0 < k → ∃ pn : ByteArray, prevB ms k = blt pn ms[k].s ∧ wr.cell? ⟨pb, po + (k - 1) * 2, none⟩ = some (.string pn)) := fun h0 => by
        refine ⟨_, prevB_at h0 hlt, ?_⟩
        obtain ⟨b', o', e, _, u0, _⟩ := (HPI.out.later B0.out).at (i := k - 1) (by omega)
        simp only [Option.some.injEq, Addr.mk.injEq, and_true] at e
        rw [e.1, e.2]; exact u0
      have HPZ : Hid (k = 0 → prevB ms k = true) := fun h0 => by subst h0; rfl
      have HMP := mapOf_mets ms k hlt
      have HTK : Hid (metAt ms k = true → allTo (metAt ms) (k + 1) = true ∧ RiseBy (·.s) (ms.take (k + 1))) := fun h => by
        have h1 : allTo (metAt ms) (k + 1) = true := by rw [allTo_succ, HOK.out, h]; rfl
        exact ⟨h1, mets_rise h1 (by omega)⟩
      have HMPP : Hid (RiseBy (·.s) (ms.take (k + 1)) → DataW.put (mapOf ((ms.take k).map fun p => (p.s, iVal p.n))) (kL ms[k].s) (iVal ms[k].n) = mapOf ((ms.take (k + 1)).map fun p => (p.s, iVal p.n))) := HMP
      clear HMP
      have HMN : Hid (∀ W, UTab W → Calls Tryz.prog 53 #[.string ms[k].s] W fun e w' => e = .returned (.bool (mnameB ms[k].s)) ∧ Below W.heap.size W w') := fun W hW => isMetricName_any ms[k].s W hsz hW
      generalize ms[k] = P at *
      go_upto_region 4 with fail
      have MBX : Hid (Blk (wr.alloc (.cells #[.string P.s, .int .i64 P.n] 130)) wr.heap.size #[.string P.s, .int .i64 P.n] 130) := Blk.new _ _ _
      have HB6 : Hid (Below wr.heap.size wr (wr.alloc (.cells #[.string P.s, .int .i64 P.n] 130))) := bnew _ _
      have HPR6 : Hid (0 < k → ∃ pn : ByteArray, prevB ms k = blt pn P.s ∧ (wr.alloc (.cells #[.string P.s, .int .i64 P.n] 130)).cell? ⟨pb, po + (k - 1) * 2, none⟩ = some (.string pn)) := fun h0 => by
        obtain ⟨pn, e1, e2⟩ := HPRE.out h0
        exact ⟨pn, e1, ((bnew _ _).cell hpl).trans e2⟩
      generalize wr.alloc (.cells #[.string P.s, .int .i64 P.n] 130) = W at *
      have HIW : Hid (IdxAt W (fun g => S g ∨ w.heap.size ≤ g) x { t with mets := ms.take k } M) := HIX.out.later HB6.out
      have HTW : Hid (Turn S w W) := HTN.out.trans' (Turn.of HB6.out)
      have B0W : Hid (Below w0.heap.size w0 W) := B0.out.trans (HB6.out.mono B0.out.size)
      generalize wr.heap.size = mb at *
      clear c0 c1 HPRE hpl HIX HTN B0 HB6 wr
      go_cut [38] (fun s wx => s = .bool (!(metAt ms k)) ∧ Below W.heap.size W wx)
      case first =>
        have d0 := Later.cells (show W.cell? ⟨mb, 0, none⟩ = some (.string P.s) from MBX.out.cell 0)
        have d1 := Later.cells (show W.cell? ⟨mb, 1, none⟩ = some (.int .i64 P.n) from MBX.out.cell 1)
        have hnel := Later.there W
        have HMN2 : Hid (∀ x : Later W, Calls Tryz.prog 53 #[.string P.s] x.w' fun e w' => e = .returned (.bool (mnameB P.s)) ∧ Below x.w'.heap.size x.w' w') := fun x => HMN.out _ (HU.out.later (B0W.out.trans (x.h.mono B0W.out.size)))
        have HLI : Hid (∀ W, Calls Tryz.prog 60 #[.int .i64 P.n] W fun e w' => e = .returned (.bool (btwB P.n 0 1000000)) ∧ w' = W) := fun W => isLimit_any P.n W
        clear HMN
        by_cases h0 : (0 : Int) < k
        · have h0' : 0 < k := by omega
          obtain ⟨pn, hp, cp⟩ := HPR6.out h0'
          have d3 := Later.cells cp
          by_cases hb : Op.bytesLess pn.toList P.s.toList = true
          · have HPT : Hid (prevB ms k = true) := by show _ = _; rw [hp]; exact hb
            clear cp hp
            by_cases f1 : mnameB P.s = false
            · have HV : Hid (metAt ms k = false) := by show _ = _; rw [HMA.out, f1]; simp
              rw [f1] at HMN2
              clear f1
              refine wp_region_later (by kernel_rfl) (by kernel_rfl) ?_
              repeat (go_big_quiet_step (first | (go_at_call 53; exact calls_later (HMN2.out _)) | (go_at_call 60; exact calls_later_same (HLI.out _))))
              refine wpQuiet_nil ?_
              rintro _ ⟨x, rfl⟩
              go_wp2_with fail
              go_meet
              exact ⟨by rw [HV.out]; rfl, x.h⟩
            have f1' : mnameB P.s = true := by simpa using f1
            rw [f1'] at HMN2 HMA
            clear f1 f1'
            by_cases f2 : btwB P.n 0 1000000 = false
            · have HV : Hid (metAt ms k = false) := by show _ = _; rw [HMA.out, f2]; simp
              rw [f2] at HLI
              clear f2
              refine wp_region_later (by kernel_rfl) (by kernel_rfl) ?_
              repeat (go_big_quiet_step (first | (go_at_call 53; exact calls_later (HMN2.out _)) | (go_at_call 60; exact calls_later_same (HLI.out _))))
              refine wpQuiet_nil ?_
              rintro _ ⟨x, rfl⟩
              go_wp2_with fail
              go_meet
              exact ⟨by rw [HV.out]; rfl, x.h⟩
            have f2' : btwB P.n 0 1000000 = true := by simpa using f2
            have HV : Hid (metAt ms k = true) := by show _ = _; rw [HMA.out, f2', HPT.out]; rfl
            rw [f2'] at HLI
            clear f2 f2'
            refine wp_region_later (by kernel_rfl) (by kernel_rfl) ?_
            repeat (go_big_quiet_step (first | (go_at_call 53; exact calls_later (HMN2.out _)) | (go_at_call 60; exact calls_later_same (HLI.out _))))
            refine wpQuiet_nil ?_
            rintro _ ⟨x, rfl⟩
            go_wp2_with fail
            go_meet
            exact ⟨by rw [HV.out]; rfl, x.h⟩
          · have hb' : Op.bytesLess pn.toList P.s.toList = false := by simpa using hb
            have HV : Hid (metAt ms k = false) := by show _ = _; rw [HMA.out, hp, blt, hb']; simp
            clear cp hp hb
            refine wp_region_later (by kernel_rfl) (by kernel_rfl) ?_
            repeat (go_big_quiet_step (first | (go_at_call 53; exact calls_later (HMN2.out _)) | (go_at_call 60; exact calls_later_same (HLI.out _))))
            refine wpQuiet_nil ?_
            rintro _ ⟨x, rfl⟩
            go_wp2_with fail
            go_meet
            exact ⟨by rw [HV.out]; rfl, x.h⟩
        · have hd : decide ((0 : Int) < k) = false := by simpa using h0
          have hd' : decide (0 < k) = false := by simp; omega
          have HPT : Hid (prevB ms k = true) := HPZ.out (by omega)
          by_cases f1 : mnameB P.s = false
          · have HV : Hid (metAt ms k = false) := by show _ = _; rw [HMA.out, f1]; simp
            rw [f1] at HMN2
            clear f1
            refine wp_region_later (by kernel_rfl) (by kernel_rfl) ?_
            repeat (go_big_quiet_step (first | (go_at_call 53; exact calls_later (HMN2.out _)) | (go_at_call 60; exact calls_later_same (HLI.out _))))
            refine wpQuiet_nil ?_
            rintro _ ⟨x, rfl⟩
            go_wp2_with fail
            go_meet
            exact ⟨by rw [HV.out]; rfl, x.h⟩
          have f1' : mnameB P.s = true := by simpa using f1
          rw [f1'] at HMN2 HMA
          clear f1 f1'
          by_cases f2 : btwB P.n 0 1000000 = false
          · have HV : Hid (metAt ms k = false) := by show _ = _; rw [HMA.out, f2]; simp
            rw [f2] at HLI
            clear f2
            refine wp_region_later (by kernel_rfl) (by kernel_rfl) ?_
            repeat (go_big_quiet_step (first | (go_at_call 53; exact calls_later (HMN2.out _)) | (go_at_call 60; exact calls_later_same (HLI.out _))))
            refine wpQuiet_nil ?_
            rintro _ ⟨x, rfl⟩
            go_wp2_with fail
            go_meet
            exact ⟨by rw [HV.out]; rfl, x.h⟩
          have f2' : btwB P.n 0 1000000 = true := by simpa using f2
          have HV : Hid (metAt ms k = true) := by show _ = _; rw [HMA.out, f2', HPT.out]; rfl
          rw [f2'] at HLI
          clear f2 f2'
          refine wp_region_later (by kernel_rfl) (by kernel_rfl) ?_
          repeat (go_big_quiet_step (first | (go_at_call 53; exact calls_later (HMN2.out _)) | (go_at_call 60; exact calls_later_same (HLI.out _))))
          refine wpQuiet_nil ?_
          rintro _ ⟨x, rfl⟩
          go_wp2_with fail
          go_meet
          exact ⟨by rw [HV.out]; rfl, x.h⟩
      obtain ⟨rfl, hb7⟩ := hcut
      rename World => w7
      have MB7 : Hid (Blk w7 mb #[.string P.s, .int .i64 P.n] 130) := MBX.out.later hb7
      have HI7 : Hid (IdxAt w7 (fun g => S g ∨ w.heap.size ≤ g) x { t with mets := ms.take k } M) := HIW.out.later hb7
      have HT7 : Hid (Turn S w w7) := HTW.out.trans' (Turn.of hb7)
      clear hb7 MBX HIW HTW B0W HPR6 HMN
      by_cases f4 : metAt ms k = false
      · have HF4 : Hid (metsB ms = false) := HMF.out f4
        rw [f4]
        clear f4
        go_wp2
        go_ret
        exact ⟨ret_bool HF4.out.symm, fun h => absurd h (by rw [HF4.out]; simp), HT7.out⟩
      · have f4' : metAt ms k = true := by simpa using f4
        obtain ⟨g1, g2⟩ := HTK.out f4'
        have hbn : btwB P.n 0 1000000 = true := by
          have := HMA.out
          rw [f4'] at this
          cases hb : btwB P.n 0 1000000 with
          | true => rfl
          | false => rw [hb] at this; simp at this
        obtain ⟨hbn0, hbn1⟩ := btw_in hbn
        have G1 : Hid (allTo (metAt ms) (k + 1) = true) := g1
        have hput := HMPP.out g2
        rw [f4']
        clear f4 f4' g1 HMF HMA HPZ HTK HMPP
        obtain ⟨lm, sm, cm, iv, Q, hs, D, hI⟩ := HI7.out
        have hkey : keyOf Tryz.prog 9 (.string P.s) = some (kL P.s) := key_mk (by unfold maxLen; omega)
        obtain ⟨w8, run8, own8, gr8⟩ := hI.lims.drew.update keyed Tryz.underlying94 (by simp only [List.length_take]; unfold maxLen; omega) (val := .int .i64 P.n) hkey (plainElem_int Tryz.underlying3 (WalkArith.wf_i64 (by omega)))
        have x0 : w7.cell? ⟨x, 1, none⟩ = some (.map (some lm)) := hI.blk.cell 1
        have x1 : w7.cell? ⟨mb, 0, none⟩ = some (.string P.s) := MB7.out.cell 0
        have x2 : w7.cell? ⟨mb, 1, none⟩ = some (.int .i64 P.n) := MB7.out.cell 1
        go_wp2_with fail
        go_region
        have ht8 : Turn (· = lm) w7 w8 := (Turn.grown (a := w7) ⟨gr8.os, gr8.tape, gr8.output, gr8.size, gr8.block⟩).mono fun i _ e => by simp only [Option.some.injEq] at e; exact e.symm
        have HN : Hid (IdxAt w8 (fun g => S g ∨ w.heap.size ≤ g) x { t with mets := ms.take (k + 1) } M) := hI.newLims ht8 own8 hput g2
        have HT8 : Hid (Turn S w w8) := HT7.out.trans (ht8.mono fun i _ e => by subst e; exact hI.sl)
        clear hI own8 gr8 ht8 hput g2 x0 x1 x2 run8 hbn
        go_wp2
        exact ⟨⟨k + 1, by omega, by go_num, G1.out, HN.out, HT8.out⟩, by simp [intOf]; omega⟩
    · have ek : k = ms.length := by omega
      have HEND : Hid (metsB ms = true) := by have := HOK.out; rw [ek] at this; exact this
      have HIE : Hid (IdxAt wr (fun g => S g ∨ w.heap.size ≤ g) x { t with mets := ms } M) := by have := HIX.out; rw [ek, List.take_length] at this; exact this
      clear ek
      go_wp2
      go_ret
      exact ⟨ret_bool HEND.out.symm, fun _ => HIE.out, HTN.out⟩
end Go.Proofs.YtpajhkikcofhfaaGreatDoor

