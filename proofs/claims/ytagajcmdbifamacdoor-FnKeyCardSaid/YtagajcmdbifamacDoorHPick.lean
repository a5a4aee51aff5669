import Derived.Test.YtagajcmdbifamacDoorProg
import Derived.Test.YtagajcmdbifamacDoorDrawC
import Derived.Test.YtagajcmdbifamacDoorSKey
namespace Go.Proofs.YtagajcmdbifamacDoor
open Go.RowKit

set_option maxRecDepth 100000 in
theorem hPick_any (B P : Nat) (a : Option Addr) (m cap n : Nat) (w : World) (hU : U8In w B P a m) (hm : m ≤ 1048576) (h1 : 1 ≤ n) (hn : n ≤ 256) :
    Calls Tryd.prog 15 #[.slice a m cap, .int .i64 0, .int .i64 (n : Nat)] w fun e w' => ∃ v : Nat, v < n ∧ e = .returned (.int .i64 (v : Nat)) ∧ w' = w := by
  by_cases hm0 : m = 0
  · subst hm0
    clear hU
    go_enter Tryd.func15, Tryd.ntmps15
    go_wp2
    go_ret
    exact ⟨0, by omega, rfl, rfl⟩
  · rcases hU with h | ⟨b, o, rfl, _, _, hc⟩
    · exact absurd h hm0
    obtain ⟨v, hv, hcell⟩ := hc 0 (by omega)
    clear hc
    rw [Nat.add_zero] at hcell
    have hm1 : ¬ ((m : Int) = 0) := by omega
    have hm2 : (0 : Int) < (m : Int) := by omega
    by_cases hn1 : n ≤ 1
    · have hn' : (n : Int) ≤ 1 := by omega
      go_enter Tryd.func15, Tryd.ntmps15
      go_wp2
      go_ret
      exact ⟨0, by omega, rfl, rfl⟩
    · have hn' : ¬ ((n : Int) ≤ 1) := by omega
      have hn0 : ¬ ((n : Int) = 0) := by omega
      go_enter Tryd.func15, Tryd.ntmps15
      go_wp2
      go_ret
      exact ⟨v % n, Nat.mod_lt _ (by omega), rfl, rfl⟩

set_option maxRecDepth 100000 in
set_option maxHeartbeats 1000000 in
theorem hLabels_any (a a' : Option Addr) (cap cap' : Nat) (xs ys : List LabD) (w : World) (hf : LabsIn w a xs) (hf' : LabsIn w a' ys) (hx : xs.length ≤ 2000000) :
    Calls Tryd.prog 14 #[.slice a xs.length cap, .slice a' ys.length cap'] w fun e w' => e = .returned (.bool (sameLs xs ys)) ∧ Below w.heap.size w w' := by
  have HF : Hid (LabsIn w a xs) := hf
  have HF' : Hid (LabsIn w a' ys) := hf'
  clear hf hf'
  by_cases hl : xs.length = ys.length
  · have hlb : ((xs.length : Int) != (ys.length : Int)) = false := by simp [hl]
    have HL : Hid (xs.length = ys.length) := hl
    have hyx : ys.length ≤ xs.length ∧ xs.length ≤ ys.length := by omega
    obtain ⟨hyx1, hyx2⟩ := hyx
    clear hl
    go_enter Tryd.func14, Tryd.ntmps14
    go_wp2
    go_loopw [5, 13] (fun _ i wr => ∃ k : Nat, k ≤ xs.length ∧ i = .int .i64 k ∧ Hid (sameLs xs ys = sameLs (xs.drop k) (ys.drop k)) ∧ Below w.heap.size w wr) (fun _ i _ => xs.length - (intOf i).toNat)
    case atStart => exact ⟨0, Nat.zero_le _, rfl, rfl, Below.refl _ _⟩
    case round =>
      obtain ⟨k, hk, rfl, HK, hbel⟩ := hrel
      by_cases hlt : k < xs.length
      · have hlt' : k < ys.length := by omega
        obtain ⟨b, o, rfl, hb, c0, c1⟩ := (HF.out.later hbel).at hlt
        obtain ⟨b', o', rfl, hb', c0', c1'⟩ := (HF'.out.later hbel).at hlt'
        have HS := sameLs_drop xs ys k hlt hlt'
        have hne0 : ∀ W, Sem.run Tryd.prog (binOp .neq 35 (.agg #[.string xs[k].name, .string xs[k].value]) (.agg #[.string ys[k].name, .string ys[k].value])) W = .ok (.bool (!eqLabB xs[k] ys[k])) W := fun W => neqL.1 xs[k] ys[k] W
        have hgd0 : ∀ (op : BinOp) (p q : Operand) (W : World), Sem.run Tryd.prog (eqGuard op 35 p q (.agg #[.string xs[k].name, .string xs[k].value]) (.agg #[.string ys[k].name, .string ys[k].value])) W = .ok () W := fun op p q W => neqL.2 op p q xs[k] ys[k] W
        have d0 := Later.cells c0
        have d1 := Later.cells c1
        have d0' := Later.cells c0'
        have d1' := Later.cells c1'
        clear c0 c1 c0' c1'
        have hne := Later.there wr
        cases he : eqLabB xs[k] ys[k] with
        | true =>
          have E : Hid (sameLs xs ys = sameLs (xs.drop (k + 1)) (ys.drop (k + 1))) := by show _ = _; rw [HK.out, HS, he, Bool.true_and]
          rw [he] at hne0
          clear HS he
          generalize xs[k].name = n1 at *
          generalize xs[k].value = v1 at *
          generalize ys[k].name = n2 at *
          generalize ys[k].value = v2 at *
          go_wp2_with fail
          refine wp_region_later (by kernel_rfl) (by kernel_rfl) ?_
          repeat (go_big_quiet_step (fail))
          refine wpQuiet_nil ?_
          rintro _ ⟨x, rfl⟩
          have HX : Hid (Below w.heap.size w x.w') := bto hbel x.h
          clear d0 d1 d0' d1' hne
          generalize x.w' = W2 at *
          clear x
          go_wp2
          exact ⟨⟨k + 1, by omega, by go_num, E.out, HX.out⟩, by simp [intOf]; omega⟩
        | false =>
          have E : Hid (sameLs xs ys = false) := by show _ = _; rw [HK.out, HS, he, Bool.false_and]
          rw [he] at hne0
          clear HS he
          generalize xs[k].name = n1 at *
          generalize xs[k].value = v1 at *
          generalize ys[k].name = n2 at *
          generalize ys[k].value = v2 at *
          go_wp2_with fail
          refine wp_region_later (by kernel_rfl) (by kernel_rfl) ?_
          repeat (go_big_quiet_step (fail))
          refine wpQuiet_nil ?_
          rintro _ ⟨x, rfl⟩
          have HX : Hid (Below w.heap.size w x.w') := bto hbel x.h
          clear d0 d1 d0' d1' hne
          generalize x.w' = W2 at *
          clear x
          go_wp2
          go_ret
          exact ⟨ret_bool E.out.symm, HX.out⟩
      · have E : Hid (sameLs xs ys = true) := by
          show _ = _
          rw [HK.out, List.drop_of_length_le (by omega), List.drop_of_length_le (by omega)]; rfl
        go_wp2
        go_ret
        exact ⟨ret_bool E.out.symm, hbel⟩
  · have hlb : ((xs.length : Int) != (ys.length : Int)) = true := by simp; omega
    have E : Hid (sameLs xs ys = false) := sameLs_len hl
    go_enter Tryd.func14, Tryd.ntmps14
    go_wp2
    go_ret
    exact ⟨ret_bool E.out.symm, Below.refl _ _⟩

end Go.Proofs.YtagajcmdbifamacDoor
