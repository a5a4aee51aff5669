import Derived.Test.YteajeifmllogiaaGreatDoorProg
import Derived.Test.YteajeifmllogiaaGreatDoorJ23LedO
import Derived.Test.YteajeifmllogiaaGreatDoorJ02BlkN
import Derived.Test.YteajeifmllogiaaGreatDoorJ01Flat
import Derived.Laws.MakeOwn
import Derived.Test.YteajeifmllogiaaGreatDoorJ11Shelf
import Derived.Deep.RegionHeld3
namespace Go.Proofs.YteajeifmllogiaaGreatDoor
open Go.RowKit

set_option maxRecDepth 100000 in
set_option maxHeartbeats 1000000 in
theorem implState_any (c : CfgD) (now : Int) (a : Option Addr) (cap : Nat) (ts : List TenD) (M : Nat) (w : World) (hf : TensIn w a ts) (hfit : FitT ts M) (hlen : ts.length ≤ 1000000000) (hU : UTab w) :
    Calls Tryz.prog 18 #[cfgV c, .agg #[.int .i64 now, .slice a ts.length cap]] w fun e w' => e = .returned (.bool (stateB c now ts)) ∧ Below w.heap.size w w' := by
  have HO : Hid (∀ W, Below w.heap.size w W → Calls Tryz.prog 42 #[cfgV c, .agg #[.int .i64 now, .slice a ts.length cap]] W fun e w' => OpenOut c now ts M W e w') := fun W hW => open_any c now a cap ts M W (hf.later hW) hfit hlen (hU.later hW)
  clear hf hfit hU
  unfold OpenOut at HO
  unfold cfgV at *
  go_enter Tryz.func18, Tryz.ntmps18
  go_wp2_with fail
  refine (HO.out _ (bto (bnew _ _) (bnew _ _))).mono ?_
  intro e w1 hx
  have HX := hid hx
  clear hx
  rcases HX.out with ⟨hs, rfl, hb⟩ | ⟨hs, l, m, rfl, _, _, hb⟩
  · have HB : Hid (Below w.heap.size w w1) := bto (bto (bnew _ _) (bnew _ _)) hb
    have HSB : Hid (stateB c now ts = false) := hs
    clear HX hb hs
    go_wp2
    go_ret
    exact ⟨ret_bool HSB.out.symm, HB.out⟩
  · have HB : Hid (Below w.heap.size w w1) := bto (bto (bnew _ _) (bnew _ _)) hb
    have HSB : Hid (stateB c now ts = true) := hs
    clear HX hb hs
    go_wp2
    go_ret
    exact ⟨ret_bool HSB.out.symm, HB.out⟩

end Go.Proofs.YteajeifmllogiaaGreatDoor

namespace Go.Proofs.YteajeifmllogiaaGreatDoor
open Go.RowKit

theorem shrN_pow (v : Int) : ∀ k, shrN v k = v / 2 ^ (8 * k)
  | 0 => by simp [shrN]
  | k + 1 => by
    rw [shrN, shrN_pow v k, show 8 * (k + 1) = 8 * k + 8 by omega, Int.pow_add, Int.ediv_ediv_of_nonneg (Int.pow_nonneg (by omega))]
    rfl
theorem numI_get (v : Int) : ∀ n i, i < n → (numI v n)[i]? = some (shrN v (n - 1 - i) % 256)
  | 0, i, h => absurd h (by omega)
  | n + 1, 0, _ => by simp [numI]
  | n + 1, i + 1, h => by
    rw [numI, List.getElem?_cons_succ, numI_get v n i (by omega)]
    congr 3
    omega

set_option maxRecDepth 100000 in
set_option maxHeartbeats 1000000 in
theorem implHigh_any (n : Nat) (v : Int) (w : World) (hn : n ≤ 8) :
    Calls Tryz.prog 54 #[.int .i64 v, .int .i64 n] w fun e w' => e = .returned (.string (numS n v)) ∧ Below w.heap.size w w' := by
  obtain ⟨C, hC, hmk⟩ : ∃ C : Array Value, C.size = n ∧ (Instr.makeSlice 62 (.int .i64 n) (.int .i64 n)).run Tryz.prog w = .ok (.slice (some ⟨w.heap.size, 0, none⟩) n n) (w.alloc (.cells C 5)) := by
    obtain ⟨ti, hti, hz0, hz1, hz2⟩ := info_u8
    have h := run_make (P := Tryz.prog) w 62 5 ti _ Tryz.underlying62 hti hz0 .i64 .i64 (n : Int) (n : Int) (by omega) (by omega) (by rw [hz2]; omega) (by omega)
    rw [hz1, Int.toNat_natCast, Nat.mul_one] at h
    exact ⟨_, size_madeCells _ _, h⟩
  have HB : Hid (Blk (w.alloc (.cells C 5)) w.heap.size C 5) := heap_alloc_new _ _
  go_enter Tryz.func54, Tryz.ntmps54
  go_wp2
  go_loopw [6, 11] (fun _ c wr => ∃ (k : Nat) (cur : Array Value), k ≤ n ∧ c = .int .i64 k ∧ Hid (Blk wr w.heap.size cur 5) ∧ cur.size = n ∧ Hid (∀ i, i < k → cur[n - 1 - i]? = some (.int .u8 (shrN v i % 256))) ∧ Hid (Below w.heap.size w wr)) (fun _ c _ => n - (intOf c).toNat)
  case atStart => exact ⟨0, C, by omega, rfl, HB, hC, fun i hi => absurd hi (by omega), bnew _ _⟩
  case round =>
    obtain ⟨k, cur, hk, rfl, hblk, hcs, hcur, hbel⟩ := hrel
    by_cases hlt : k < n
    · obtain ⟨p, hp, hpn⟩ : ∃ p : Nat, (n : Int) - 1 - (k : Int) = (p : Int) ∧ Hid (p = n - 1 - k) := ⟨n - 1 - k, by omega, rfl⟩
      have hc : wr.cell? ⟨w.heap.size, p, none⟩ = some (cur[p]'(by have := hpn.out; omega)) := by rw [hblk.out.cell]; exact Array.getElem?_eq_getElem _
      have hf := hblk.out.free p
      go_wp2
      refine ⟨⟨k + 1, cur.setIfInBounds p (.int .u8 (v / 2 ^ (8 * k) % 256)), by omega, by go_num, hblk.out.set p _, by simp [hcs], ?_, hbel.out.setCell (p := ⟨w.heap.size, p, none⟩) (Nat.le_refl _) _⟩, by simp [intOf]; omega⟩
      intro i hi
      have hp2 := hpn.out
      rw [Array.getElem?_setIfInBounds]
      split
      · rename_i e
        have e2 : i = k := by omega
        subst e2
        rw [if_pos (by omega), shrN_pow]
      · rename_i e
        exact hcur.out i (by omega)
    · have e : k = n := by omega
      subst e
      have hcv : (convert 62 9 (.slice (some ⟨w.heap.size, 0, none⟩) k k)).run Tryz.prog wr = .ok (.string (numS k v)) wr := by
        refine run_convert_bytes_arg wr 62 5 Tryz.underlying62 Tryz.underlying5 w.heap.size 0 _ _ (numI v k) (numI_length v k) (fun i hi => ?_) 9 Tryz.underlying9
        rw [hblk.out.cell, Nat.zero_add]
        have h2 := hcur.out (k - 1 - i) (by omega)
        rw [show k - 1 - (k - 1 - i) = i by omega] at h2
        rw [h2]
        have h3 := numI_get v k i (by omega)
        simp [List.getD, h3]
      go_wp2
      go_ret
      exact ⟨rfl, hbel.out⟩
end Go.Proofs.YteajeifmllogiaaGreatDoor

namespace Go.Proofs.YteajeifmllogiaaGreatDoor
open Go.RowKit

theorem info_strR : ∃ i, Tryz.prog.info? 9 = some i ∧ i.zero = some (.string ByteArray.empty) ∧ i.size = 1 ∧ i.bytes = 16 := by
  have h : (Tryz.prog.info? 9).map (fun i => (i.zero, i.size, i.bytes)) = some (some (.string ByteArray.empty), 1, 16) := by kernel_rfl
  obtain ⟨i, hi, hz⟩ := Option.map_eq_some_iff.1 h
  simp only [Prod.mk.injEq] at hz
  exact ⟨i, hi, hz.1, hz.2.1, hz.2.2⟩
/-- The strings of a row that the call owns. -/
theorem strs_cells {w : World} {B : Nat} {e : TypeId} {g cv : Nat} {xs : List ByteArray} (h : w.ownsRow B e 1 (.slice (some ⟨g, 0, none⟩) xs.length cv) xs.length (xs.map Value.string)) :
    xs.length ≤ cv ∧ g < w.heap.size ∧ ∀ (j : Nat) x, xs[j]? = some x → w.cell? ⟨g, 0 + j, none⟩ = some (.string x) := by
  rcases h.2 with ⟨he, _⟩ | ⟨g', cap', cur, he, hB, hb, hc, _, _, ht⟩
  · simp at he
  · simp only [Value.slice.injEq, Option.some.injEq, Addr.mk.injEq, and_true] at he
    obtain ⟨rfl, _, rfl⟩ := he
    refine ⟨hc, lt_of_block hb, fun j x hx => ?_⟩
    rw [cell_of_row w g _ cur _ _ hb, Nat.zero_add, ← Array.getElem?_toList]
    have h2 : (xs.map Value.string)[j]? = some (.string x) := by rw [List.getElem?_map, hx]; rfl
    rw [← ht] at h2
    have hj := (List.getElem?_eq_some_iff.1 h2).1
    rw [List.length_take] at hj
    rw [List.getElem?_take_of_lt (by omega)] at h2
    exact h2
end Go.Proofs.YteajeifmllogiaaGreatDoor

namespace Go.Proofs.YteajeifmllogiaaGreatDoor
open Go.RowKit

def catB : List ByteArray → ByteArray
  | [] => ByteArray.empty
  | x :: r => x ++ catB r
theorem catB_append : ∀ (a b : List ByteArray), catB (a ++ b) = catB a ++ catB b
  | [], b => by simp [catB]
  | x :: r, b => by
    show x ++ catB (r ++ b) = x ++ catB r ++ catB b
    rw [catB_append r b, ByteArray.append_assoc]
theorem cat_list (xs : List ByteArray) : (catB xs).data.toList = (xs.map (·.data.toList)).flatten := by
  induction xs with
  | nil => rfl
  | cons x r ih => simp [catB, ih]
theorem join_cat (xs : List ByteArray) : Lib.join (xs.map (·.data.toList)) ByteArray.empty.data.toList = (catB xs).data.toList := by
  have e : ByteArray.empty.data.toList = [] := rfl
  rw [cat_list, e]
  cases xs with
  | nil => rfl
  | cons x r =>
    rw [List.map_cons, Lib.join_cons, Lib.joinTail]
    simp
    rfl
theorem arr_cat (xs : List ByteArray) : (⟨(Lib.join (xs.map (·.data.toList)) ByteArray.empty.data.toList).toArray⟩ : ByteArray) = catB xs := by
  rw [join_cat]
def sumB : List ByteArray → Nat
  | [] => 0
  | x :: r => x.size + sumB r
theorem catB_size : ∀ (xs : List ByteArray), (catB xs).size = sumB xs
  | [] => rfl
  | x :: r => by rw [catB, ByteArray.size_append, catB_size r, sumB]
theorem sumB_append : ∀ (a b : List ByteArray), sumB (a ++ b) = sumB a + sumB b
  | [], b => by simp [sumB]
  | x :: r, b => by show x.size + sumB (r ++ b) = x.size + sumB r + sumB b; rw [sumB_append r b]; omega

theorem implU8_any (n : Nat) (w : World) : Calls Tryz.prog 68 #[.int .i64 (n : Nat)] w fun e w' => e = .returned (.string (numS 1 (n : Nat))) ∧ Below w.heap.size w w' := by
  have HC : Hid (∀ W, Calls Tryz.prog 54 #[.int .i64 (n : Nat), .int .i64 1] W fun e w' => e = .returned (.string (numS 1 (n : Nat))) ∧ Below W.heap.size W w') := fun W => implHigh_any 1 (n : Nat) W (by omega)
  generalize numS 1 (n : Nat) = N at *
  go_enter Tryz.func68, Tryz.ntmps68
  go_wp2_with fail
  refine (HC.out _).mono ?_
  rintro e w1 ⟨rfl, hb1⟩
  have HB : Hid (Below w.heap.size w w1) := hb1
  clear hb1
  go_wp2
  go_ret
  exact ⟨rfl, HB.out⟩

theorem joined_any (g n cap : Nat) (xs : List ByteArray) (w : World) (hn : n = xs.length) (hc : ∀ (j : Nat) x, xs[j]? = some x → w.cell? ⟨g, 0 + j, none⟩ = some (.string x)) (hg : g < w.heap.size) (hcap : xs.length ≤ cap) (hl : xs.length ≤ 1000000000) (hz : sumB xs ≤ 140737488355328) :
    Calls Tryz.prog 40 #[.slice (some ⟨g, 0, none⟩) n cap] w fun e w' => e = .returned (.string (catB xs)) ∧ Below w.heap.size w w' := by
  subst hn
  have HC : Hid (Calls Tryz.prog 57 #[.slice (some ⟨g, 0, none⟩) xs.length cap, .string ByteArray.empty] w fun e w' => e = .returned (.string (catB xs)) ∧ Below w.heap.size w w') := by
    have h := Tryz.strings_Join g 0 cap xs ByteArray.empty w hc hg (by omega) hcap (by rw [join_cat, ← Lib.size_eq, catB_size]; exact hz)
    rw [arr_cat] at h
    exact h
  clear hc hz
  generalize catB xs = C at *
  generalize xs.length = n at *
  go_enter Tryz.func40, Tryz.ntmps40
  go_wp2_with fail
  refine HC.out.mono ?_
  rintro e w1 ⟨rfl, hb1⟩
  have HB : Hid (Below w.heap.size w w1) := hb1
  clear hb1
  go_wp2
  go_ret
  exact ⟨rfl, HB.out⟩

theorem two_cells {W : World} {x y : ByteArray} {t : TypeId} : ∀ (j : Nat) z, [x, y][j]? = some z → (W.alloc (.cells #[.string x, .string y] t)).cell? ⟨W.heap.size, 0 + j, none⟩ = some (.string z) := by
  intro j z h
  rw [cell_of_row _ W.heap.size _ _ _ _ (heap_alloc_new _ _), Nat.zero_add]
  match j, h with
  | 0, h => simp at h; simp [h]
  | 1, h => simp at h; simp [h]
  | j + 2, h => simp at h

theorem implS8_any (s : ByteArray) (w : World) (hs : s.size ≤ 1000000000) : Calls Tryz.prog 55 #[.string s] w fun e w' => e = .returned (.string (s8B s)) ∧ Below w.heap.size w w' := by
  have HU : Hid (∀ W, Calls Tryz.prog 68 #[.int .i64 (s.size : Nat)] W fun e w' => e = .returned (.string (numS 1 (s.size : Nat))) ∧ Below W.heap.size W w') := fun W => implU8_any s.size W
  have hz := numS_size 1 (s.size : Nat)
  unfold s8B
  generalize numS 1 (s.size : Nat) = N at *
  have HJ : Hid (∀ W : World, Calls Tryz.prog 40 #[.slice (some ⟨W.heap.size, 0, none⟩) 2 2] (W.alloc (.cells #[.string N, .string s] 9)) fun e w' => e = .returned (.string (N ++ s)) ∧ Below (W.alloc (.cells #[.string N, .string s] 9)).heap.size (W.alloc (.cells #[.string N, .string s] 9)) w') := fun W => by
    have h := joined_any W.heap.size 2 2 [N, s] (W.alloc (.cells #[.string N, .string s] 9)) rfl two_cells (by simp) (by simp) (by simp) (by simp [sumB]; omega)
    have e : catB [N, s] = N ++ s := by simp [catB]
    rw [e] at h
    exact h
  go_enter Tryz.func55, Tryz.ntmps55
  go_wp2_with fail
  refine (HU.out _).mono ?_
  rintro e w1 ⟨rfl, hb1⟩
  have HB : Hid (Below w.heap.size w w1) := hb1
  clear hb1
  go_wp2_with fail
  refine (HJ.out _).mono ?_
  rintro e w2 ⟨rfl, hb2⟩
  have HB2 : Hid (Below w.heap.size w w2) := bto (bto HB.out (bnew _ _)) hb2
  clear hb2
  go_wp2
  go_ret
  exact ⟨rfl, HB2.out⟩
theorem implS16_any (s : ByteArray) (w : World) (hs : s.size ≤ 1000000000) : Calls Tryz.prog 56 #[.string s] w fun e w' => e = .returned (.string (s16B s)) ∧ Below w.heap.size w w' := by
  have HU : Hid (∀ W, Calls Tryz.prog 54 #[.int .i64 (s.size : Nat), .int .i64 2] W fun e w' => e = .returned (.string (numS 2 (s.size : Nat))) ∧ Below W.heap.size W w') := fun W => implHigh_any 2 (s.size : Nat) W (by omega)
  have hz := numS_size 2 (s.size : Nat)
  unfold s16B
  generalize numS 2 (s.size : Nat) = N at *
  have HJ : Hid (∀ W : World, Calls Tryz.prog 40 #[.slice (some ⟨W.heap.size, 0, none⟩) 2 2] (W.alloc (.cells #[.string N, .string s] 9)) fun e w' => e = .returned (.string (N ++ s)) ∧ Below (W.alloc (.cells #[.string N, .string s] 9)).heap.size (W.alloc (.cells #[.string N, .string s] 9)) w') := fun W => by
    have h := joined_any W.heap.size 2 2 [N, s] (W.alloc (.cells #[.string N, .string s] 9)) rfl two_cells (by simp) (by simp) (by simp) (by simp [sumB]; omega)
    have e : catB [N, s] = N ++ s := by simp [catB]
    rw [e] at h
    exact h
  go_enter Tryz.func56, Tryz.ntmps56
  go_wp2_with fail
  refine (HU.out _).mono ?_
  rintro e w1 ⟨rfl, hb1⟩
  have HB : Hid (Below w.heap.size w w1) := hb1
  clear hb1
  go_wp2_with fail
  refine (HJ.out _).mono ?_
  rintro e w2 ⟨rfl, hb2⟩
  have HB2 : Hid (Below w.heap.size w w2) := bto (bto HB.out (bnew _ _)) hb2
  clear hb2
  go_wp2
  go_ret
  exact ⟨rfl, HB2.out⟩
end Go.Proofs.YteajeifmllogiaaGreatDoor

