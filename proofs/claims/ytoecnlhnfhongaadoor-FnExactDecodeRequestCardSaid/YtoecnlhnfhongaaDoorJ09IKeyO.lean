import Derived.Test.YtoecnlhnfhongaaDoorJ03RqD
import Derived.Test.YtoecnlhnfhongaaDoorJ01SmpB
import Derived.Laws.MakeOwn
import Derived.Test.YtoecnlhnfhongaaDoorProg
import Derived.Test.YtoecnlhnfhongaaDoorJ02SNum
import Derived.Test.YtoecnlhnfhongaaDoorJ07Shelf
import Derived.Deep.RegionHeld3
import Derived.Test.YtoecnlhnfhongaaDoorJ04AppA
namespace Go.Proofs.YtoecnlhnfhongaaDoor
open Go.RowKit

theorem shrN_pow (v : Int) : ∀ k, shrN v k = v / 2 ^ (8 * k)
  | 0 => by simp [shrN]
  | k + 1 => by
    rw [shrN, shrN_pow v k, show 8 * (k + 1) = 8 * k + 8 by omega, Int.pow_add, Int.ediv_ediv_of_nonneg (Int.pow_nonneg (by omega))]
    rfl
theorem numI_get (v : Int) : ∀ n i, i < n → (numI v n)[i]? = some (shrN v (n - 1 - i) % 256)
  | 0, i, h => absurd h (by omega)
  | n + 1, 0, _ => by simp [numI]
  | n + 1, i + 1, h => by
    rw [numI, List.getElem?_cons_succ, numI_get v n i (by omega)]
    congr 3
    omega

set_option maxRecDepth 100000 in
set_option maxHeartbeats 1000000 in
theorem implHigh_any (n : Nat) (v : Int) (w : World) (hn : n ≤ 8) :
    Calls Tryd.prog 55 #[.int .i64 v, .int .i64 n] w fun e w' => e = .returned (.string (numS n v)) ∧ Below w.heap.size w w' := by
  obtain ⟨C, hC, hmk⟩ : ∃ C : Array Value, C.size = n ∧ (Instr.makeSlice 69 (.int .i64 n) (.int .i64 n)).run Tryd.prog w = .ok (.slice (some ⟨w.heap.size, 0, none⟩) n n) (w.alloc (.cells C 5)) := by
    obtain ⟨ti, hti, hz0, hz1, hz2⟩ := info_u8
    have h := run_make (P := Tryd.prog) w 69 5 ti _ Tryd.underlying69 hti hz0 .i64 .i64 (n : Int) (n : Int) (by omega) (by omega) (by rw [hz2]; omega) (by omega)
    rw [hz1, Int.toNat_natCast, Nat.mul_one] at h
    exact ⟨_, size_madeCells _ _, h⟩
  have HB : Hid (Blk (w.alloc (.cells C 5)) w.heap.size C 5) := heap_alloc_new _ _
  go_enter Tryd.func55, Tryd.ntmps55
  go_wp2
  go_loopw [6, 11] (fun _ c wr => ∃ (k : Nat) (cur : Array Value), k ≤ n ∧ c = .int .i64 k ∧ Hid (Blk wr w.heap.size cur 5) ∧ cur.size = n ∧ Hid (∀ i, i < k → cur[n - 1 - i]? = some (.int .u8 (shrN v i % 256))) ∧ Hid (Below w.heap.size w wr)) (fun _ c _ => n - (intOf c).toNat)
  case atStart => exact ⟨0, C, by omega, rfl, HB, hC, fun i hi => absurd hi (by omega), bnew _ _⟩
  case round =>
    obtain ⟨k, cur, hk, rfl, hblk, hcs, hcur, hbel⟩ := hrel
    by_cases hlt : k < n
    · obtain ⟨p, hp, hpn⟩ : ∃ p : Nat, (n : Int) - 1 - (k : Int) = (p : Int) ∧ Hid (p = n - 1 - k) := ⟨n - 1 - k, by omega, rfl⟩
      have hc : wr.cell? ⟨w.heap.size, p, none⟩ = some (cur[p]'(by have := hpn.out; omega)) := by rw [hblk.out.cell]; exact Array.getElem?_eq_getElem _
      have hf := hblk.out.free p
      go_wp2
      refine ⟨⟨k + 1, cur.setIfInBounds p (.int .u8 (v / 2 ^ (8 * k) % 256)), by omega, by go_num, hblk.out.set p _, by simp [hcs], ?_, hbel.out.setCell (p := ⟨w.heap.size, p, none⟩) (Nat.le_refl _) _⟩, by simp [intOf]; omega⟩
      intro i hi
      have hp2 := hpn.out
      rw [Array.getElem?_setIfInBounds]
      split
      · rename_i e
        have e2 : i = k := by omega
        subst e2
        rw [if_pos (by omega), shrN_pow]
      · rename_i e
        exact hcur.out i (by omega)
    · have e : k = n := by omega
      subst e
      have hcv : (convert 69 9 (.slice (some ⟨w.heap.size, 0, none⟩) k k)).run Tryd.prog wr = .ok (.string (numS k v)) wr := by
        refine run_convert_bytes_arg wr 69 5 Tryd.underlying69 Tryd.underlying5 w.heap.size 0 _ _ (numI v k) (numI_length v k) (fun i hi => ?_) 9 Tryd.underlying9
        rw [hblk.out.cell, Nat.zero_add]
        have h2 := hcur.out (k - 1 - i) (by omega)
        rw [show k - 1 - (k - 1 - i) = i by omega] at h2
        rw [h2]
        have h3 := numI_get v k i (by omega)
        simp [List.getD, h3]
      go_wp2
      go_ret
      exact ⟨rfl, hbel.out⟩
end Go.Proofs.YtoecnlhnfhongaaDoor

namespace Go.Proofs.YtoecnlhnfhongaaDoor
open Go.RowKit

theorem info_strR : ∃ i, Tryd.prog.info? 9 = some i ∧ i.zero = some (.string ByteArray.empty) ∧ i.size = 1 ∧ i.bytes = 16 := by
  have h : (Tryd.prog.info? 9).map (fun i => (i.zero, i.size, i.bytes)) = some (some (.string ByteArray.empty), 1, 16) := by kernel_rfl
  obtain ⟨i, hi, hz⟩ := Option.map_eq_some_iff.1 h
  simp only [Prod.mk.injEq] at hz
  exact ⟨i, hi, hz.1, hz.2.1, hz.2.2⟩
/-- The strings of a row that the call owns. -/
theorem strs_cells {w : World} {B : Nat} {e : TypeId} {g cv : Nat} {xs : List ByteArray} (h : w.ownsRow B e 1 (.slice (some ⟨g, 0, none⟩) xs.length cv) xs.length (xs.map Value.string)) :
    xs.length ≤ cv ∧ g < w.heap.size ∧ ∀ (j : Nat) x, xs[j]? = some x → w.cell? ⟨g, 0 + j, none⟩ = some (.string x) := by
  rcases h.2 with ⟨he, _⟩ | ⟨g', cap', cur, he, hB, hb, hc, _, _, ht⟩
  · simp at he
  · simp only [Value.slice.injEq, Option.some.injEq, Addr.mk.injEq, and_true] at he
    obtain ⟨rfl, _, rfl⟩ := he
    refine ⟨hc, lt_of_block hb, fun j x hx => ?_⟩
    rw [cell_of_row w g _ cur _ _ hb, Nat.zero_add, ← Array.getElem?_toList]
    have h2 : (xs.map Value.string)[j]? = some (.string x) := by rw [List.getElem?_map, hx]; rfl
    rw [← ht] at h2
    have hj := (List.getElem?_eq_some_iff.1 h2).1
    rw [List.length_take] at hj
    rw [List.getElem?_take_of_lt (by omega)] at h2
    exact h2
end Go.Proofs.YtoecnlhnfhongaaDoor

namespace Go.Proofs.YtoecnlhnfhongaaDoor
open Go.RowKit

def catB : List ByteArray → ByteArray
  | [] => ByteArray.empty
  | x :: r => x ++ catB r
theorem catB_append : ∀ (a b : List ByteArray), catB (a ++ b) = catB a ++ catB b
  | [], b => by simp [catB]
  | x :: r, b => by
    show x ++ catB (r ++ b) = x ++ catB r ++ catB b
    rw [catB_append r b, ByteArray.append_assoc]
theorem cat_list (xs : List ByteArray) : (catB xs).data.toList = (xs.map (·.data.toList)).flatten := by
  induction xs with
  | nil => rfl
  | cons x r ih => simp [catB, ih]
theorem join_cat (xs : List ByteArray) : Lib.join (xs.map (·.data.toList)) ByteArray.empty.data.toList = (catB xs).data.toList := by
  have e : ByteArray.empty.data.toList = [] := rfl
  rw [cat_list, e]
  cases xs with
  | nil => rfl
  | cons x r =>
    rw [List.map_cons, Lib.join_cons, Lib.joinTail]
    simp
    rfl
theorem arr_cat (xs : List ByteArray) : (⟨(Lib.join (xs.map (·.data.toList)) ByteArray.empty.data.toList).toArray⟩ : ByteArray) = catB xs := by
  rw [join_cat]
def sumB : List ByteArray → Nat
  | [] => 0
  | x :: r => x.size + sumB r
theorem catB_size : ∀ (xs : List ByteArray), (catB xs).size = sumB xs
  | [] => rfl
  | x :: r => by rw [catB, ByteArray.size_append, catB_size r, sumB]
theorem sumB_append : ∀ (a b : List ByteArray), sumB (a ++ b) = sumB a + sumB b
  | [], b => by simp [sumB]
  | x :: r, b => by show x.size + sumB (r ++ b) = x.size + sumB r + sumB b; rw [sumB_append r b]; omega

theorem implU8_any (n : Nat) (w : World) : Calls Tryd.prog 38 #[.int .i64 (n : Nat)] w fun e w' => e = .returned (.string (numS 1 (n : Nat))) ∧ Below w.heap.size w w' := by
  have HC : Hid (∀ W, Calls Tryd.prog 55 #[.int .i64 (n : Nat), .int .i64 1] W fun e w' => e = .returned (.string (numS 1 (n : Nat))) ∧ Below W.heap.size W w') := fun W => implHigh_any 1 (n : Nat) W (by omega)
  generalize numS 1 (n : Nat) = N at *
  go_enter Tryd.func38, Tryd.ntmps38
  go_wp2_with fail
  refine (HC.out _).mono ?_
  rintro e w1 ⟨rfl, hb1⟩
  have HB : Hid (Below w.heap.size w w1) := hb1
  clear hb1
  go_wp2
  go_ret
  exact ⟨rfl, HB.out⟩

theorem joined_any (g n cap : Nat) (xs : List ByteArray) (w : World) (hn : n = xs.length) (hc : ∀ (j : Nat) x, xs[j]? = some x → w.cell? ⟨g, 0 + j, none⟩ = some (.string x)) (hg : g < w.heap.size) (hcap : xs.length ≤ cap) (hl : xs.length ≤ 1000000000) (hz : sumB xs ≤ 140737488355328) :
    Calls Tryd.prog 44 #[.slice (some ⟨g, 0, none⟩) n cap] w fun e w' => e = .returned (.string (catB xs)) ∧ Below w.heap.size w w' := by
  subst hn
  have HC : Hid (Calls Tryd.prog 56 #[.slice (some ⟨g, 0, none⟩) xs.length cap, .string ByteArray.empty] w fun e w' => e = .returned (.string (catB xs)) ∧ Below w.heap.size w w') := by
    have h := Tryd.strings_Join g 0 cap xs ByteArray.empty w hc hg (by omega) hcap (by rw [join_cat, ← Lib.size_eq, catB_size]; exact hz)
    rw [arr_cat] at h
    exact h
  clear hc hz
  generalize catB xs = C at *
  generalize xs.length = n at *
  go_enter Tryd.func44, Tryd.ntmps44
  go_wp2_with fail
  refine HC.out.mono ?_
  rintro e w1 ⟨rfl, hb1⟩
  have HB : Hid (Below w.heap.size w w1) := hb1
  clear hb1
  go_wp2
  go_ret
  exact ⟨rfl, HB.out⟩

theorem two_cells {W : World} {x y : ByteArray} {t : TypeId} : ∀ (j : Nat) z, [x, y][j]? = some z → (W.alloc (.cells #[.string x, .string y] t)).cell? ⟨W.heap.size, 0 + j, none⟩ = some (.string z) := by
  intro j z h
  rw [cell_of_row _ W.heap.size _ _ _ _ (heap_alloc_new _ _), Nat.zero_add]
  match j, h with
  | 0, h => simp at h; simp [h]
  | 1, h => simp at h; simp [h]
  | j + 2, h => simp at h

theorem implS8_any (s : ByteArray) (w : World) (hs : s.size ≤ 1000000000) : Calls Tryd.prog 39 #[.string s] w fun e w' => e = .returned (.string (s8B s)) ∧ Below w.heap.size w w' := by
  have HU : Hid (∀ W, Calls Tryd.prog 38 #[.int .i64 (s.size : Nat)] W fun e w' => e = .returned (.string (numS 1 (s.size : Nat))) ∧ Below W.heap.size W w') := fun W => implU8_any s.size W
  have hz := numS_size 1 (s.size : Nat)
  unfold s8B
  generalize numS 1 (s.size : Nat) = N at *
  have HJ : Hid (∀ W : World, Calls Tryd.prog 44 #[.slice (some ⟨W.heap.size, 0, none⟩) 2 2] (W.alloc (.cells #[.string N, .string s] 9)) fun e w' => e = .returned (.string (N ++ s)) ∧ Below (W.alloc (.cells #[.string N, .string s] 9)).heap.size (W.alloc (.cells #[.string N, .string s] 9)) w') := fun W => by
    have h := joined_any W.heap.size 2 2 [N, s] (W.alloc (.cells #[.string N, .string s] 9)) rfl two_cells (by simp) (by simp) (by simp) (by simp [sumB]; omega)
    have e : catB [N, s] = N ++ s := by simp [catB]
    rw [e] at h
    exact h
  go_enter Tryd.func39, Tryd.ntmps39
  go_wp2_with fail
  refine (HU.out _).mono ?_
  rintro e w1 ⟨rfl, hb1⟩
  have HB : Hid (Below w.heap.size w w1) := hb1
  clear hb1
  go_wp2_with fail
  refine (HJ.out _).mono ?_
  rintro e w2 ⟨rfl, hb2⟩
  have HB2 : Hid (Below w.heap.size w w2) := bto (bto HB.out (bnew _ _)) hb2
  clear hb2
  go_wp2
  go_ret
  exact ⟨rfl, HB2.out⟩
theorem implS16_any (s : ByteArray) (w : World) (hs : s.size ≤ 1000000000) : Calls Tryd.prog 43 #[.string s] w fun e w' => e = .returned (.string (s16B s)) ∧ Below w.heap.size w w' := by
  have HU : Hid (∀ W, Calls Tryd.prog 55 #[.int .i64 (s.size : Nat), .int .i64 2] W fun e w' => e = .returned (.string (numS 2 (s.size : Nat))) ∧ Below W.heap.size W w') := fun W => implHigh_any 2 (s.size : Nat) W (by omega)
  have hz := numS_size 2 (s.size : Nat)
  unfold s16B
  generalize numS 2 (s.size : Nat) = N at *
  have HJ : Hid (∀ W : World, Calls Tryd.prog 44 #[.slice (some ⟨W.heap.size, 0, none⟩) 2 2] (W.alloc (.cells #[.string N, .string s] 9)) fun e w' => e = .returned (.string (N ++ s)) ∧ Below (W.alloc (.cells #[.string N, .string s] 9)).heap.size (W.alloc (.cells #[.string N, .string s] 9)) w') := fun W => by
    have h := joined_any W.heap.size 2 2 [N, s] (W.alloc (.cells #[.string N, .string s] 9)) rfl two_cells (by simp) (by simp) (by simp) (by simp [sumB]; omega)
    have e : catB [N, s] = N ++ s := by simp [catB]
    rw [e] at h
    exact h
  go_enter Tryd.func43, Tryd.ntmps43
  go_wp2_with fail
  refine (HU.out _).mono ?_
  rintro e w1 ⟨rfl, hb1⟩
  have HB : Hid (Below w.heap.size w w1) := hb1
  clear hb1
  go_wp2_with fail
  refine (HJ.out _).mono ?_
  rintro e w2 ⟨rfl, hb2⟩
  have HB2 : Hid (Below w.heap.size w w2) := bto (bto HB.out (bnew _ _)) hb2
  clear hb2
  go_wp2
  go_ret
  exact ⟨rfl, HB2.out⟩
end Go.Proofs.YtoecnlhnfhongaaDoor

namespace Go.Proofs.YtoecnlhnfhongaaDoor
open Go.RowKit

def BigK (ls : List LabD) : Prop := ∀ i (h : i < ls.length), ls[i].name.size ≤ 1000000000 ∧ ls[i].value.size ≤ 1000000000
def partsK (ls : List LabD) : List ByteArray := ls.flatMap fun l => [s8B l.name, s16B l.value]
theorem partsK_take (ls : List LabD) (k : Nat) (h : k < ls.length) : partsK (ls.take (k + 1)) = partsK (ls.take k) ++ [s8B ls[k].name, s16B ls[k].value] := by
  unfold partsK
  rw [List.take_succ_eq_append_getElem h, List.flatMap_append]
  rfl
theorem cat_partsK : ∀ (ls : List LabD), catB (partsK ls) = tailB ls
  | [] => rfl
  | l :: r => by
    have e : partsK (l :: r) = [s8B l.name, s16B l.value] ++ partsK r := rfl
    rw [e, catB_append, cat_partsK r, tailB]
    simp [catB]

set_option maxRecDepth 100000 in
set_option maxHeartbeats 2000000 in
theorem keyOfR_any (a : Option Addr) (cap : Nat) (ls : List LabD) (w : World) (hf : LabsIn w a ls) (hB : BigK ls) (hlen : ls.length ≤ 255) :
    Calls Tryd.prog 41 #[.slice a ls.length cap] w fun e w' => e = .returned (.string (keyB ls)) ∧ Below w.heap.size w w' := by
  have HF : Hid (LabsIn w a ls) := hf
  have HB : Hid (BigK ls) := hB
  have HU : Hid (∀ W, Calls Tryd.prog 38 #[.int .i64 (ls.length : Nat)] W fun e w' => e = .returned (.string (numS 1 (ls.length : Nat))) ∧ Below W.heap.size W w') := fun W => implU8_any ls.length W
  have hz1 := numS_size 1 (ls.length : Nat)
  have HKB : Hid (keyB ls = numS 1 (ls.length : Nat) ++ tailB ls) := rfl
  generalize numS 1 (ls.length : Nat) = NB at *
  obtain ⟨ti, hti, ht0, ht1, ht2⟩ := info_strR
  have HI : Hid (Tryd.prog.info? 9 = some ti) := hti
  clear hf hB hti
  go_enter Tryd.func41, Tryd.ntmps41
  go_wp2_with fail
  refine (HU.out _).mono ?_
  rintro e w1 ⟨rfl, hb1⟩
  have B1 : Hid (Below w.heap.size w w1) := hb1
  have hs1 : w.heap.size ≤ w1.heap.size := hb1.size
  clear hb1
  go_wp2
  go_loopw [3, 5, 12] (fun out _ i wr => ∃ (k : Nat) (ps : List ByteArray) (g cv : Nat), k ≤ ls.length ∧ i = .int .i64 k ∧ out = .slice (some ⟨g, 0, none⟩) ps.length cv ∧ ps.length ≤ 1 + 2 * k ∧ sumB ps ≤ 1 + k * 3000000000 ∧ Hid (ps = NB :: partsK (ls.take k)) ∧ Hid (wr.ownsRow w.heap.size 9 1 (.slice (some ⟨g, 0, none⟩) ps.length cv) ps.length (ps.map Value.string)) ∧ Below w.heap.size w wr) (fun _ _ i _ => ls.length - (intOf i).toNat)
  case atStart =>
    exact ⟨0, [NB], _, _, Nat.zero_le _, rfl, rfl, by simp, by simp [sumB]; omega, rfl, ⟨rfl, Or.inr ⟨w1.heap.size, 1, _, rfl, hs1, heap_alloc_new _ _, Nat.le_refl _, by simp [maxLen], rfl, rfl⟩⟩, bto B1.out (bnew _ _)⟩
  case round =>
    obtain ⟨k, ps, g, cv, hk, rfl, rfl, hpl, hps, HPS, HROW, hbel⟩ := hrel
    by_cases hlt : k < ls.length
    · obtain ⟨b, o, rfl, hb, c0, c1⟩ := (HF.out.later hbel).at hlt
      obtain ⟨hn1, hn2⟩ := HB.out k hlt
      have HS8 : Hid (∀ W, Calls Tryd.prog 39 #[.string ls[k].name] W fun e w' => e = .returned (.string (s8B ls[k].name)) ∧ Below W.heap.size W w') := fun W => implS8_any ls[k].name W hn1
      have HS16 : Hid (∀ W, Calls Tryd.prog 43 #[.string ls[k].value] W fun e w' => e = .returned (.string (s16B ls[k].value)) ∧ Below W.heap.size W w') := fun W => implS16_any ls[k].value W hn2
      have hz8 := s8B_size ls[k].name
      have hz16 := s16B_size ls[k].value
      have HT := partsK_take ls k hlt
      have E2 : Hid (ps ++ [s8B ls[k].name, s16B ls[k].value] = NB :: partsK (ls.take (k + 1))) := by show _ = _; rw [HT, HPS.out]; rfl
      clear HT
      generalize s8B ls[k].name = S8 at *
      generalize s16B ls[k].value = S16 at *
      generalize ls[k].name = nm at *
      generalize ls[k].value = va at *
      have hnb : ¬ b = wr.heap.size := by omega
      have hsz := hbel.size
      have HBX : Hid (Blk (wr.alloc (.cells #[.string nm, .string va] 56)) wr.heap.size #[.string nm, .string va] 56 ∧ Below wr.heap.size wr (wr.alloc (.cells #[.string nm, .string va] 56))) := ⟨heap_alloc_new _ _, bnew _ _⟩
      have HR2 : Hid ((wr.alloc (.cells #[.string nm, .string va] 56)).ownsRow w.heap.size 9 1 (.slice (some ⟨g, 0, none⟩) ps.length cv) ps.length (ps.map Value.string) ∧ Below w.heap.size w (wr.alloc (.cells #[.string nm, .string va] 56))) := ⟨row_later HROW.out (bnew _ _), bto hbel (bnew _ _)⟩
      go_wp2_with fail
      generalize wr.alloc (.cells #[.string nm, .string va] 56) = W at *
      have x0 := HBX.out.1.cell 0
      have x1 := HBX.out.1.cell 1
      simp only [List.getElem?_toArray, List.getElem?_cons_zero, List.getElem?_cons_succ] at x0 x1
      have hBX : wr.heap.size < W.heap.size := lt_of_block HBX.out.1
      have hww : w.heap.size ≤ W.heap.size := HR2.out.2.size
      have hgB : g < wr.heap.size := (strs_cells HROW.out).2.1
      clear HROW HBX hnb hb c0 c1 hbel hsz
      generalize wr.heap.size = BX at *
      clear wr
      go_region_held3 (fun w' => w'.cell? ⟨BX, 0, none⟩ = some (.string nm) ∧ w'.cell? ⟨BX, 1, none⟩ = some (.string va))
        (first
          | go_keep
          | exact ⟨hk50.trans x0, hk51.trans x1⟩
          | exact ⟨((hc2.alloc hc2.size _).cell hBX).trans x0, ((hc2.alloc hc2.size _).cell hBX).trans x1⟩
          | exact ⟨(hc2.cell hBX).trans x0, (hc2.cell hBX).trans x1⟩
          | exact ⟨(hc1.cell hBX).trans x0, (hc1.cell hBX).trans x1⟩)
        ((first
          | (go_at_call 39; refine (HS8.out _).mono ?_; rintro e w1 ⟨rfl, hb1⟩; have hc1 : Below W.heap.size W w1 := (Below.refl _ W).drew.trans hb1)
          | (go_at_call 43; refine (HS16.out _).mono ?_; rintro e w2 ⟨rfl, hb2⟩; have hc2 : Below W.heap.size W w2 := hc1.trans (hb2.mono hc1.size))
          | (refine step_append_any _ (by rfl) _ _ _ (by rfl) w.heap.size 9 ti _ 1 16 Tryd.underlying76 HI.out ht0 ht1 ht2 rfl (by omega) g ps.length cv _ (by rfl) (by exact row_later (row_later HR2.out.1 hc2) (bnew _ _)) _ 2 2 [.string S8, .string S16] (by rfl) rfl (by exact Or.inr ⟨_, rfl, World.news_of_block (cs := #[.string S8, .string S16]) (heap_alloc_new _ _)⟩) (by simp [Value.oneCell']) (by simp [maxLen]; omega) (by omega) (by have := hc2.size; simp; omega) ?_; intro g5 cap5 w5 hown5 hB5 hk5 hg5 hat5 hlt5; have hk50 : w5.cell? ⟨BX, 0, none⟩ = W.cell? ⟨BX, 0, none⟩ := (World.cell?_of_block (hk5 BX (by have := hc2.size; simp; omega) (by omega))).trans ((hc2.alloc hc2.size _).cell hBX); have hk51 : w5.cell? ⟨BX, 1, none⟩ = W.cell? ⟨BX, 1, none⟩ := (World.cell?_of_block (hk5 BX (by have := hc2.size; simp; omega) (by omega))).trans ((hc2.alloc hc2.size _).cell hBX); have hB5' : Below w.heap.size w w5 := ((bto HR2.out.2 hc2).alloc (Nat.le_trans hww hc2.size) _).trans hB5)))
      have hxs : ps.map Value.string ++ [Value.string S8, .string S16] = (ps ++ [S8, S16]).map Value.string := by simp
      have hle : (ps ++ [S8, S16]).length = ps.length + 2 := by simp
      have hsm : sumB (ps ++ [S8, S16]) = sumB ps + (S8.size + S16.size) := by rw [sumB_append]; simp [sumB]
      rw [hxs, ← hle] at hown5
      rw [← hle]
      have HO5 : Hid (w5.ownsRow w.heap.size 9 1 (.slice (some ⟨g5, 0, none⟩) (ps ++ [S8, S16]).length cap5) (ps ++ [S8, S16]).length ((ps ++ [S8, S16]).map Value.string) ∧ Below w.heap.size w w5) := ⟨hown5, hB5'⟩
      clear hown5 hB5 hB5' hk5 hat5 hk50 hk51 hxs
      generalize ps ++ [S8, S16] = ps5 at *
      go_wp2
      exact ⟨⟨k + 1, ps5, g5, cap5, by omega, by go_num, rfl, by omega, by omega, E2.out, HO5.out.1, HO5.out.2⟩, by simp [intOf]; omega⟩
    · have E2 : Hid (catB ps = keyB ls) := by
        show _ = _
        rw [HPS.out, List.take_of_length_le (by omega), catB, cat_partsK, HKB.out]
      obtain ⟨hcv, hg, hcs⟩ := strs_cells HROW.out
      have HJ : Hid (Calls Tryd.prog 44 #[.slice (some ⟨g, 0, none⟩) ps.length cv] wr fun e w' => e = .returned (.string (catB ps)) ∧ Below wr.heap.size wr w') := joined_any g ps.length cv ps wr rfl hcs hg hcv (by omega) (by omega)
      rw [E2.out] at HJ
      clear HROW hcs
      go_wp2_with fail
      refine HJ.out.mono ?_
      rintro e w2 ⟨rfl, hb2⟩
      have B2 : Hid (Below w.heap.size w w2) := bto hbel hb2
      clear hb2
      go_wp2
      go_ret
      exact ⟨rfl, B2.out⟩

end Go.Proofs.YtoecnlhnfhongaaDoor

