import Derived.Test.YtndaihhjhllfcaeGreatDoorProg
import Derived.Test.YtndaihhjhllfcaeGreatDoorJ04Cfg
import Derived.Test.YtndaihhjhllfcaeGreatDoorJ15SCanon
import Derived.Test.YtndaihhjhllfcaeGreatDoorJ13IDec
import Derived.Test.YtndaihhjhllfcaeGreatDoorJ03SNum
namespace Go.Proofs.YtndaihhjhllfcaeGreatDoor
open Go.RowKit

theorem specS8_any (s : ByteArray) (w : World) (hs : s.size ≤ 1000000000) :
    Calls Tryz.prog 179 #[.string s] w fun e w' => e = .returned (.string (s8B s)) ∧ Below w.heap.size w w' := by
  have HC : Hid (∀ W, Calls Tryz.prog 178 #[.int .i64 1, .int .i64 (s.size : Nat)] W fun e w' => e = .returned (.string (numS 1 (s.size : Nat))) ∧ Below W.heap.size W w') := fun W => specNum_any 1 (s.size : Nat) W (by omega) (by omega) (by omega)
  have hz := numS_size 1 (s.size : Nat)
  unfold s8B
  generalize numS 1 (s.size : Nat) = N at *
  go_enter Tryz.func179, Tryz.ntmps179
  go_wp2_with fail
  refine (HC.out _).mono ?_
  rintro e w1 ⟨rfl, hb1⟩
  have HB : Hid (Below w.heap.size w w1) := hb1
  clear hb1
  go_wp2
  go_ret
  exact ⟨rfl, HB.out⟩
theorem specS16_any (s : ByteArray) (w : World) (hs : s.size ≤ 1000000000) :
    Calls Tryz.prog 180 #[.string s] w fun e w' => e = .returned (.string (s16B s)) ∧ Below w.heap.size w w' := by
  have HC : Hid (∀ W, Calls Tryz.prog 178 #[.int .i64 2, .int .i64 (s.size : Nat)] W fun e w' => e = .returned (.string (numS 2 (s.size : Nat))) ∧ Below W.heap.size W w') := fun W => specNum_any 2 (s.size : Nat) W (by omega) (by omega) (by omega)
  have hz := numS_size 2 (s.size : Nat)
  unfold s16B
  generalize numS 2 (s.size : Nat) = N at *
  go_enter Tryz.func180, Tryz.ntmps180
  go_wp2_with fail
  refine (HC.out _).mono ?_
  rintro e w1 ⟨rfl, hb1⟩
  have HB : Hid (Below w.heap.size w w1) := hb1
  clear hb1
  go_wp2
  go_ret
  exact ⟨rfl, HB.out⟩

set_option maxRecDepth 100000 in
set_option maxHeartbeats 1000000 in
theorem l3Same_any (a a' : Option Addr) (cap cap' : Nat) (xs ys : List LabD) (w : World) (hf : LabsIn w a xs) (hf' : LabsIn w a' ys) (hx : xs.length ≤ 2000000) :
    Calls Tryz.prog 177 #[.slice a xs.length cap, .slice a' ys.length cap'] w fun e w' => e = .returned (.bool (sameLs xs ys)) ∧ Below w.heap.size w w' := by
  have HF : Hid (LabsIn w a xs) := hf
  have HF' : Hid (LabsIn w a' ys) := hf'
  clear hf hf'
  by_cases hl : xs.length = ys.length
  · have hlb : ((xs.length : Int) != (ys.length : Int)) = false := by simp [hl]
    have HL : Hid (xs.length = ys.length) := hl
    have hyx : ys.length ≤ xs.length ∧ xs.length ≤ ys.length := by omega
    obtain ⟨hyx1, hyx2⟩ := hyx
    clear hl
    go_enter Tryz.func177, Tryz.ntmps177
    go_wp2
    go_loopw [5, 13] (fun _ i wr => ∃ k : Nat, k ≤ xs.length ∧ i = .int .i64 k ∧ Hid (sameLs xs ys = sameLs (xs.drop k) (ys.drop k)) ∧ Below w.heap.size w wr) (fun _ i _ => xs.length - (intOf i).toNat)
    case atStart => exact ⟨0, Nat.zero_le _, rfl, rfl, Below.refl _ _⟩
    case round =>
      obtain ⟨k, hk, rfl, HK, hbel⟩ := hrel
      by_cases hlt : k < xs.length
      · have hlt' : k < ys.length := by omega
        obtain ⟨b, o, rfl, hb, c0, c1⟩ := (HF.out.later hbel).at hlt
        obtain ⟨b', o', rfl, hb', c0', c1'⟩ := (HF'.out.later hbel).at hlt'
        have HS := sameLs_drop xs ys k hlt hlt'
        have hne0 : ∀ W, Sem.run Tryz.prog (binOp .neq 191 (.agg #[.string xs[k].name, .string xs[k].value]) (.agg #[.string ys[k].name, .string ys[k].value])) W = .ok (.bool (!eqLabB xs[k] ys[k])) W := fun W => neqL.1 xs[k] ys[k] W
        have hgd0 : ∀ (op : BinOp) (p q : Operand) (W : World), Sem.run Tryz.prog (eqGuard op 191 p q (.agg #[.string xs[k].name, .string xs[k].value]) (.agg #[.string ys[k].name, .string ys[k].value])) W = .ok () W := fun op p q W => neqL.2 op p q xs[k] ys[k] W
        have d0 := Later.cells c0
        have d1 := Later.cells c1
        have d0' := Later.cells c0'
        have d1' := Later.cells c1'
        clear c0 c1 c0' c1'
        have hne := Later.there wr
        cases he : eqLabB xs[k] ys[k] with
        | true =>
          have E : Hid (sameLs xs ys = sameLs (xs.drop (k + 1)) (ys.drop (k + 1))) := by show _ = _; rw [HK.out, HS, he, Bool.true_and]
          rw [he] at hne0
          clear HS he
          generalize xs[k].name = n1 at *
          generalize xs[k].value = v1 at *
          generalize ys[k].name = n2 at *
          generalize ys[k].value = v2 at *
          go_wp2_with fail
          refine wp_region_later (by kernel_rfl) (by kernel_rfl) ?_
          repeat (go_big_quiet_step (fail))
          refine wpQuiet_nil ?_
          rintro _ ⟨x, rfl⟩
          have HX : Hid (Below w.heap.size w x.w') := bto hbel x.h
          clear d0 d1 d0' d1' hne
          generalize x.w' = W2 at *
          clear x
          go_wp2
          exact ⟨⟨k + 1, by omega, by go_num, E.out, HX.out⟩, by simp [intOf]; omega⟩
        | false =>
          have E : Hid (sameLs xs ys = false) := by show _ = _; rw [HK.out, HS, he, Bool.false_and]
          rw [he] at hne0
          clear HS he
          generalize xs[k].name = n1 at *
          generalize xs[k].value = v1 at *
          generalize ys[k].name = n2 at *
          generalize ys[k].value = v2 at *
          go_wp2_with fail
          refine wp_region_later (by kernel_rfl) (by kernel_rfl) ?_
          repeat (go_big_quiet_step (fail))
          refine wpQuiet_nil ?_
          rintro _ ⟨x, rfl⟩
          have HX : Hid (Below w.heap.size w x.w') := bto hbel x.h
          clear d0 d1 d0' d1' hne
          generalize x.w' = W2 at *
          clear x
          go_wp2
          go_ret
          exact ⟨ret_bool E.out.symm, HX.out⟩
      · have E : Hid (sameLs xs ys = true) := by
          show _ = _
          rw [HK.out, List.drop_of_length_le (by omega), List.drop_of_length_le (by omega)]; rfl
        go_wp2
        go_ret
        exact ⟨ret_bool E.out.symm, hbel⟩
  · have hlb : ((xs.length : Int) != (ys.length : Int)) = true := by simp; omega
    have E : Hid (sameLs xs ys = false) := sameLs_len hl
    go_enter Tryz.func177, Tryz.ntmps177
    go_wp2
    go_ret
    exact ⟨ret_bool E.out.symm, Below.refl _ _⟩

set_option maxRecDepth 100000 in
set_option maxHeartbeats 1000000 in
theorem specKey_any (a : Option Addr) (cap : Nat) (ls : List LabD) (w : World) (hf : LabsIn w a ls) (hB : BigS ls) (hlen : ls.length ≤ 2000000) (hcap : ls.length ≤ cap) :
    Calls Tryz.prog 122 #[.slice a ls.length cap] w fun e w' => e = .returned (.string (keyV ls)) ∧ Below w.heap.size w w' := by
  have HC : Hid (Calls Tryz.prog 176 #[.slice a ls.length cap] w fun e w' => CanonOut e w w' (canonR ls).1 (canonR ls).2.1 (canonR ls).2.2) := specCanon_any a cap ls w hf hB hlen hcap
  have HF : Hid (LabsIn w a ls) := hf
  have HB : Hid (BigS ls) := hB
  have hcl := canon_len0 ls
  unfold CanonOut at HC
  clear hf hB
  by_cases h0 : (canonR ls).2.1 = 0
  · have h0b : (((canonR ls).2.1 : Int) != 0) = false := by simp; omega
    have HSM : Hid (∀ W af cf, LabsIn W af (canonR ls).1 → LabsIn W a ls → Calls Tryz.prog 177 #[.slice af (canonR ls).1.length cf, .slice a ls.length cap] W fun e w' => e = .returned (.bool (sameLs (canonR ls).1 ls)) ∧ Below W.heap.size W w') := fun W af cf h1 h2 => l3Same_any af a cf cap _ ls W h1 h2 (by omega)
    by_cases hs : sameLs (canonR ls).1 ls = true
    · have hcan : canB ls = true := by unfold canB; rw [h0, hs]; rfl
      have E : Hid (keyV ls = keyB ls) := by show _ = _; rw [keyV, if_pos hcan]
      have h16 := can_le hcan
      have HNU : Hid (∀ W, Calls Tryz.prog 178 #[.int .i64 1, .int .i64 (ls.length : Nat)] W fun e w' => e = .returned (.string (numS 1 (ls.length : Nat))) ∧ Below W.heap.size W w') := fun W => specNum_any 1 (ls.length : Nat) W (by omega) (by omega) (by omega)
      have hz1 := numS_size 1 (ls.length : Nat)
      have HKB : Hid (keyB ls = numS 1 (ls.length : Nat) ++ tailB ls) := rfl
      have HSS : Hid (sameLs (canonR ls).1 ls = true) := hs
      clear h0 hs hcan
      generalize (canonR ls).1 = C at *
      generalize (canonR ls).2.1 = c1 at *
      generalize (canonR ls).2.2 = c2 at *
      generalize numS 1 (ls.length : Nat) = NB at *
      go_enter Tryz.func122, Tryz.ntmps122
      go_wp2_with fail
      refine HC.out.mono ?_
      rintro e w1 ⟨af, cf, rfl, hof, hb1⟩
      have B1 : Hid (Below w.heap.size w w1) := hb1
      have O1 : Hid (LabsIn w1 af C ∧ LabsIn w1 a ls) := ⟨hof.labs, HF.out.later hb1⟩
      clear hof hb1 HC
      go_wp2_with fail
      refine (HSM.out _ _ _ O1.out.1 O1.out.2).mono ?_
      rintro e w2 ⟨rfl, hb2⟩
      rw [HSS.out]
      have B2 : Hid (Below w.heap.size w w2) := bto B1.out hb2
      clear hb2 O1 B1
      go_wp2_with fail
      refine (HNU.out _).mono ?_
      rintro e w3 ⟨rfl, hb3⟩
      have B3 : Hid (Below w.heap.size w w3) := bto B2.out hb3
      clear hb3 B2
      go_wp2
      go_loopw [6, 8, 28] (fun out _ i wr => ∃ (k : Nat) (st : ByteArray), k ≤ ls.length ∧ i = .int .i64 k ∧ out = .string st ∧ st.size ≤ 1 + k * 3000000000 ∧ Hid (st = NB ++ tailB (ls.take k)) ∧ Below w.heap.size w wr) (fun _ _ i _ => ls.length - (intOf i).toNat)
      case atStart => exact ⟨0, NB, Nat.zero_le _, rfl, rfl, by omega, by show _ = _; simp [tailB], B3.out⟩
      case round =>
        obtain ⟨k, st, hk, rfl, rfl, hst, HST, hbel⟩ := hrel
        by_cases hlt : k < ls.length
        · obtain ⟨b, o, rfl, hb, c0, c1⟩ := (HF.out.later hbel).at hlt
          obtain ⟨hs1, hs2⟩ := HB.out k hlt
          have HS8 : Hid (∀ W, Calls Tryz.prog 179 #[.string ls[k].name] W fun e w' => e = .returned (.string (s8B ls[k].name)) ∧ Below W.heap.size W w') := fun W => specS8_any ls[k].name W hs1
          have HS16 : Hid (∀ W, Calls Tryz.prog 180 #[.string ls[k].value] W fun e w' => e = .returned (.string (s16B ls[k].value)) ∧ Below W.heap.size W w') := fun W => specS16_any ls[k].value W hs2
          have hz8 := s8B_size ls[k].name
          have hz16 := s16B_size ls[k].value
          have HT := tailB_take ls k hlt
          have E2 : Hid (st ++ (s8B ls[k].name ++ s16B ls[k].value) = NB ++ tailB (ls.take (k + 1))) := by show _ = _; rw [HT, HST.out, ByteArray.append_assoc]
          clear HT
          generalize s8B ls[k].name = S8 at *
          generalize s16B ls[k].value = S16 at *
          generalize ls[k].name = nm at *
          generalize ls[k].value = va at *
          have hz816 : (S8 ++ S16).size = S8.size + S16.size := ByteArray.size_append
          have hzst : (st ++ (S8 ++ S16)).size = st.size + (S8.size + S16.size) := by rw [ByteArray.size_append, hz816]
          have d0 : ∀ x : Later (wr.alloc (.cells #[.string nm, .string va] 191)), x.w'.cell? ⟨wr.heap.size, 0, none⟩ = some (.string nm) := Later.cells (by simp)
          have d1 : ∀ x : Later (wr.alloc (.cells #[.string nm, .string va] 191)), x.w'.cell? ⟨wr.heap.size, 1, none⟩ = some (.string va) := Later.cells (by simp)
          have hne := Later.there (wr.alloc (.cells #[.string nm, .string va] 191))
          have hnb : ¬ b = wr.heap.size := by omega
          go_wp2_with fail
          refine wp_region_later (by kernel_rfl) (by kernel_rfl) ?_
          repeat (go_big_quiet_step (first | (go_at_call 179; exact calls_later (HS8.out _)) | (go_at_call 180; exact calls_later (HS16.out _))))
          refine wpQuiet_nil ?_
          rintro _ ⟨x, rfl⟩
          have HX : Hid (Below w.heap.size w x.w') := bto (bto hbel (bnew _ _)) x.h
          clear d0 d1 hne
          generalize x.w' = W2 at *
          clear x
          go_wp2
          exact ⟨⟨k + 1, st ++ (S8 ++ S16), by omega, by go_num, rfl, by omega, E2.out, HX.out⟩, by simp [intOf]; omega⟩
        · have E2 : Hid (st = keyV ls) := by
            show _ = _
            rw [E.out, HKB.out, HST.out, List.take_of_length_le (by omega)]
          go_wp2
          go_ret
          exact ⟨by rw [← E2.out]; rfl, hbel⟩
    · have hs' : sameLs (canonR ls).1 ls = false := by simpa using hs
      have E : Hid (keyV ls = ByteArray.empty) := by
        show _ = _
        rw [keyV, if_neg]
        unfold canB
        rw [hs', Bool.and_false]
        simp
      have HSS : Hid (sameLs (canonR ls).1 ls = false) := hs'
      clear h0 hs hs'
      generalize (canonR ls).1 = C at *
      generalize (canonR ls).2.1 = c1 at *
      generalize (canonR ls).2.2 = c2 at *
      go_enter Tryz.func122, Tryz.ntmps122
      go_wp2_with fail
      refine HC.out.mono ?_
      rintro e w1 ⟨af, cf, rfl, hof, hb1⟩
      have B1 : Hid (Below w.heap.size w w1) := hb1
      have O1 : Hid (LabsIn w1 af C ∧ LabsIn w1 a ls) := ⟨hof.labs, HF.out.later hb1⟩
      clear hof hb1 HC
      go_wp2_with fail
      refine (HSM.out _ _ _ O1.out.1 O1.out.2).mono ?_
      rintro e w2 ⟨rfl, hb2⟩
      rw [HSS.out]
      have B2 : Hid (Below w.heap.size w w2) := bto B1.out hb2
      clear hb2 O1 B1
      go_wp2
      go_ret
      exact ⟨by rw [E.out]; rfl, B2.out⟩
  · have h0b : (((canonR ls).2.1 : Int) != 0) = true := by simp; omega
    have E : Hid (keyV ls = ByteArray.empty) := by
      show _ = _
      rw [keyV, if_neg]
      unfold canB
      rw [decide_eq_false h0]
      simp
    clear h0
    generalize (canonR ls).1 = C at *
    generalize (canonR ls).2.1 = c1 at *
    generalize (canonR ls).2.2 = c2 at *
    go_enter Tryz.func122, Tryz.ntmps122
    go_wp2_with fail
    refine HC.out.mono ?_
    rintro e w1 ⟨af, cf, rfl, hof, hb1⟩
    have B1 : Hid (Below w.heap.size w w1) := hb1
    clear hof hb1 HC
    go_wp2
    go_ret
    exact ⟨by rw [E.out]; rfl, B1.out⟩
end Go.Proofs.YtndaihhjhllfcaeGreatDoor

namespace Go.Proofs.YtndaihhjhllfcaeGreatDoor
open Go.RowKit

set_option maxHeartbeats 1000000 in
theorem specGet_any (s : ByteArray) (p n : Nat) (w : World) (hs : s.size ≤ maxLen) (h : p + n ≤ s.size) (hn : n ≤ 7) :
    Calls Tryz.prog 142 #[.string s, .int .i64 p, .int .i64 n] w fun e w' => e = .returned (.int .i64 (beL (sectL s p n) : Nat)) ∧ w' = w := by
  unfold maxLen at hs
  go_enter Tryz.func142, Tryz.ntmps142
  go_wp2
  go_loop [7, 8] (fun v i => ∃ (k V : Nat), k ≤ n ∧ i = .int .i64 k ∧ v = .int .i64 V ∧ Hid (V = beL (sectL s p k))) (fun _ i => n - (intOf i).toNat)
  case atStart => exact ⟨0, 0, Nat.zero_le _, rfl, rfl, rfl⟩
  case round =>
    obtain ⟨k, V, hk, rfl, rfl, hV⟩ := hrel
    have hlt64 : V < 72057594037927936 := by
      have h1 := beL_lt (sectL s p k)
      rw [sectL_length (by omega), ← hV.out] at h1
      have h2 : 256 ^ k ≤ 256 ^ 7 := Nat.pow_le_pow_right (by omega) (by omega)
      omega
    by_cases hlt : k < n
    · have hV7 : V * 256 + 255 < 9223372036854775807 := by
        have h1 := beL_lt (sectL s p k)
        rw [sectL_length (by omega), ← hV.out] at h1
        have h2 : 256 ^ k ≤ 256 ^ 6 := Nat.pow_le_pow_right (by omega) (by omega)
        omega
      have hi0 : (0 : Int) ≤ (p : Int) + (k : Int) := by omega
      have hi1 : (p : Int) + (k : Int) < (s.size : Int) := by omega
      have hi2 : p + k < s.size := by omega
      have hU := s[p + k].toNat_lt
      go_wp2
      exact ⟨⟨k + 1, V * 256 + s[p + k].toNat, by omega, by go_num, by go_num, by show _ = _; rw [sectL_snoc hi2, beL_snoc, hV.out]⟩, by simp [intOf]; omega⟩
    · go_wp2
      go_ret
      have e : k = n := by omega
      subst e
      exact ⟨ret_int (by rw [hV.out]), rfl⟩
end Go.Proofs.YtndaihhjhllfcaeGreatDoor

namespace Go.Proofs.YtndaihhjhllfcaeGreatDoor
open Go.RowKit

def partZ (s : ByteArray) (p n : Nat) : Nat := beL (sectL s p n)
/-- The part of s at p: its length in n bytes, then its bytes; and the place behind it. -/
def partN (s : ByteArray) (p n : Nat) : Option (ByteArray × Nat) := if p + n ≤ s.size ∧ p + n + partZ s p n ≤ s.size then some (s.extract (p + n) (p + n + partZ s p n), p + n + partZ s p n) else none

theorem ret_part {t u : ByteArray} {a b : Int} (h1 : t = u) (h2 : a = b) : Ending.returned (.tuple #[.string t, .int .i64 a]) = .returned (.tuple #[.string u, .int .i64 b]) := by rw [h1, h2]
theorem specPart_neg (s : ByteArray) (n : Nat) (w : World) :
    Calls Tryz.prog 162 #[.string s, .int .i64 (-1), .int .i64 (n : Nat)] w fun e w' => e = .returned (.tuple #[.string ByteArray.empty, .int .i64 (-1)]) ∧ w' = w := by
  go_enter Tryz.func162, Tryz.ntmps162
  go_wp2
  go_ret2
  exact ⟨rfl, rfl⟩
set_option maxRecDepth 100000 in
set_option maxHeartbeats 1000000 in
theorem specPart_none (s : ByteArray) (p n : Nat) (w : World) (hs : s.size ≤ 1000000000) (hp : p ≤ 1000000000) (hn : n ≤ 2) (h : partN s p n = none) :
    Calls Tryz.prog 162 #[.string s, .int .i64 (p : Nat), .int .i64 (n : Nat)] w fun e w' => e = .returned (.tuple #[.string ByteArray.empty, .int .i64 (-1)]) ∧ w' = w := by
  by_cases h1 : p + n ≤ s.size
  · have HG : Hid (∀ W, Calls Tryz.prog 142 #[.string s, .int .i64 (p : Nat), .int .i64 (n : Nat)] W fun e w' => e = .returned (.int .i64 (partZ s p n : Nat)) ∧ w' = W) := fun W => specGet_any s p n W (by unfold maxLen; omega) h1 (by omega)
    have h2 : ¬ p + n + partZ s p n ≤ s.size := fun h2 => by
      unfold partN at h
      rw [if_pos ⟨h1, h2⟩] at h
      exact absurd h (by simp)
    have hz : partZ s p n < 65536 := by
      have h3 := beL_lt (sectL s p n)
      rw [sectL_length h1] at h3
      have h4 : 256 ^ n ≤ 256 ^ 2 := Nat.pow_le_pow_right (by omega) hn
      unfold partZ
      omega
    clear h
    generalize partZ s p n = Z at *
    go_enter Tryz.func162, Tryz.ntmps162
    go_wp2_with fail
    refine (HG.out _).mono ?_
    rintro e w1 ⟨rfl, hw⟩
    replace hw := hw.symm
    subst hw
    go_wp2
    go_ret2
    exact ⟨rfl, rfl⟩
  · clear h
    go_enter Tryz.func162, Tryz.ntmps162
    go_wp2
    go_ret2
    exact ⟨rfl, rfl⟩
set_option maxRecDepth 100000 in
set_option maxHeartbeats 1000000 in
theorem specPart_some (s : ByteArray) (p n : Nat) (t : ByteArray) (q : Nat) (w : World) (hs : s.size ≤ 1000000000) (hn : n ≤ 2) (h : partN s p n = some (t, q)) :
    Calls Tryz.prog 162 #[.string s, .int .i64 (p : Nat), .int .i64 (n : Nat)] w fun e w' => e = .returned (.tuple #[.string t, .int .i64 (q : Nat)]) ∧ w' = w := by
  unfold partN at h
  split at h
  · rename_i hh
    obtain ⟨h1, h2⟩ := hh
    simp only [Option.some.injEq, Prod.mk.injEq] at h
    have HG : Hid (∀ W, Calls Tryz.prog 142 #[.string s, .int .i64 (p : Nat), .int .i64 (n : Nat)] W fun e w' => e = .returned (.int .i64 (partZ s p n : Nat)) ∧ w' = W) := fun W => specGet_any s p n W (by unfold maxLen; omega) h1 (by omega)
    have HT : Hid (s.extract (p + n) (p + n + partZ s p n) = t ∧ p + n + partZ s p n = q) := h
    clear h
    generalize partZ s p n = Z at *
    go_enter Tryz.func162, Tryz.ntmps162
    go_wp2_with fail
    refine (HG.out _).mono ?_
    rintro e w1 ⟨rfl, hw⟩
    replace hw := hw.symm
    subst hw
    go_wp2
    go_ret2
    exact ⟨ret_part HT.out.1 (by rw [← HT.out.2]; go_num), rfl⟩
  · exact absurd h (by simp)
theorem part_at {s t : ByteArray} {n p : Nat} {pre post : List UInt8} (h : s.data.toList = pre ++ ((numS n (t.size : Nat)).data.toList ++ (t.data.toList ++ post))) (hp : pre.length = p) (ht : t.size < 256 ^ n) : partN s p n = some (t, p + n + t.size) := by
  have hnz : (numS n (t.size : Nat)).data.toList.length = n := by rw [← bsize]; exact numS_size n _
  have hz : partZ s p n = t.size := by
    unfold partZ sectL
    rw [h, ← hp, List.drop_left]
    have e : ((numS n (t.size : Nat)).data.toList ++ (t.data.toList ++ post)).take n = (numS n (t.size : Nat)).data.toList := List.take_left' hnz
    rw [e]
    exact be_numS n t.size ht
  have hsz : s.size = p + n + t.size + post.length := by
    rw [bsize, h]
    simp only [List.length_append]
    rw [hp, hnz, ← bsize]
    omega
  unfold partN
  rw [hz, if_pos ⟨by omega, by omega⟩]
  congr 2
  apply bext
  rw [blist_extract, h, ← List.append_assoc, ← List.append_assoc]
  have hl : (pre ++ (numS n (t.size : Nat)).data.toList).length = p + n := by rw [List.length_append, hp, hnz]
  have hl2 : (pre ++ (numS n (t.size : Nat)).data.toList ++ t.data.toList).length = p + n + t.size := by rw [List.length_append, hl, ← bsize]
  rw [List.take_left' hl2, List.drop_left' hl]
theorem part_le {s : ByteArray} {p n : Nat} {t : ByteArray} {q : Nat} (h : partN s p n = some (t, q)) : q ≤ s.size ∧ t.size ≤ s.size ∧ p + n ≤ q := by
  unfold partN at h
  split at h
  · rename_i hh
    simp only [Option.some.injEq, Prod.mk.injEq] at h
    obtain ⟨rfl, rfl⟩ := h
    refine ⟨hh.2, ?_, by omega⟩
    simp
    omega
  · exact absurd h (by simp)
end Go.Proofs.YtndaihhjhllfcaeGreatDoor

