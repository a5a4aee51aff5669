import Derived.Test.YtoecnlhnfhongaaDoorProg
import Derived.Test.YtoecnlhnfhongaaDoorBase
import Derived.Test.YtoecnlhnfhongaaDoorOwn
import Derived.Deep.AppendLies
import Derived.Test.YtoecnlhnfhongaaDoorFlat
import Derived.Laws.BytesArg
namespace Go.Proofs.YtoecnlhnfhongaaDoor
open Go.RowKit

/-- v without its lowest k bytes. -/
def shrN (v : Int) : Nat → Int
  | 0 => v
  | k + 1 => shrN v k / 256
/-- The lowest n bytes of v, the highest first. -/
def numI (v : Int) : Nat → List Int
  | 0 => []
  | n + 1 => shrN v n % 256 :: numI v n
def numS (n : Nat) (v : Int) : ByteArray := strOfNums (numI v n)
theorem numI_length (v : Int) : ∀ n, (numI v n).length = n
  | 0 => rfl
  | n + 1 => by simp [numI, numI_length v n]
theorem numS_size (n : Nat) (v : Int) : (numS n v).size = n := by
  rw [numS, strOfNums_size, numI_length]

theorem info_u8 : ∃ i, Tryd.prog.info? 5 = some i ∧ i.zero = some (.int .u8 0) ∧ i.size = 1 ∧ i.bytes = 1 := by
  have h : (Tryd.prog.info? 5).map (fun i => (i.zero, i.size, i.bytes)) = some (some (.int .u8 0), 1, 1) := by kernel_rfl
  obtain ⟨i, hi, hz⟩ := Option.map_eq_some_iff.1 h
  simp only [Prod.mk.injEq] at hz
  exact ⟨i, hi, hz.1, hz.2.1, hz.2.2⟩

theorem shrN_rng (v : Int) (h0 : -9223372036854775808 ≤ v) (h1 : v ≤ 9223372036854775807) : ∀ k, -9223372036854775808 ≤ shrN v k ∧ shrN v k ≤ 9223372036854775807
  | 0 => ⟨h0, h1⟩
  | k + 1 => by have := shrN_rng v h0 h1 k; unfold shrN; omega

/-- A row of bytes of the call's own, as a string. -/
theorem conv_row {w : World} {B : Nat} {av : Option Addr} {cv : Nat} {ys : List Int} (h : w.ownsRow B 5 1 (.slice av ys.length cv) ys.length (ys.map (Value.int .u8))) :
    (convert 69 9 (.slice av ys.length cv)).run Tryd.prog w = .ok (.string (strOfNums ys)) w := by
  rcases h.2 with ⟨he, hl⟩ | ⟨g, cap, cur, he, _, hg, hle, _, hsz, htk⟩
  · simp only [Value.slice.injEq] at he
    obtain ⟨rfl, h1, rfl⟩ := he
    have e : ys = [] := List.length_eq_zero_iff.1 h1
    subst e
    exact run_convert_bytes_nil w 69 5 Tryd.underlying69 Tryd.underlying5 _ _ 9 Tryd.underlying9
  · simp only [Value.slice.injEq] at he
    obtain ⟨rfl, _, rfl⟩ := he
    refine run_convert_bytes_arg w 69 5 Tryd.underlying69 Tryd.underlying5 g 0 _ _ ys rfl (fun i hi => ?_) 9 Tryd.underlying9
    rw [Nat.zero_add, cell_of_row w g i cur _ _ hg]
    have h2 : (cur.toList.take (ys.length * 1))[i]? = (ys.map (Value.int .u8))[i]? := by rw [htk]
    rw [List.getElem?_take_of_lt (by omega)] at h2
    rw [← Array.getElem?_toList, h2]
    simp [List.getD, List.getElem?_eq_getElem hi]

set_option maxRecDepth 100000 in
set_option maxHeartbeats 1000000 in
theorem specNum_any (n : Nat) (v : Int) (w : World) (hn : n ≤ 8) (h0 : -9223372036854775808 ≤ v) (h1 : v ≤ 9223372036854775807) :
    Calls Tryd.prog 32 #[.int .i64 n, .int .i64 v] w fun e w' => e = .returned (.string (numS n v)) ∧ Below w.heap.size w w' := by
  obtain ⟨ti, hti, hz0, hz1, hz2⟩ := info_u8
  have HI : Hid (Tryd.prog.info? 5 = some ti) := hti
  clear hti
  have HV : Hid (-9223372036854775808 ≤ v ∧ v ≤ 9223372036854775807) := ⟨h0, h1⟩
  clear h0 h1
  go_enter Tryd.func32, Tryd.ntmps32
  go_wp2
  go_loopw [5, 6, 7, 8] (fun out i _ _ wr => ∃ (m : Nat) (ys : List Int) (av : Option Addr) (cv : Nat), ys.length + m = n ∧ Hid (ys ++ numI v m = numI v n) ∧ i = .int .i64 ((m : Int) - 1) ∧ out = .slice av ys.length cv ∧ Hid (wr.ownsRow w.heap.size 5 1 (.slice av ys.length cv) ys.length (ys.map (Value.int .u8))) ∧ Below w.heap.size w wr) (fun _ i _ _ _ => ((intOf i) + 1).toNat)
  case atStart =>
    exact ⟨n, [], _, _, by simp, by show _ = _; simp, by simp, rfl, World.ownsRow_made w #[] 0 (Nat.le_refl _) (by simp [maxLen]) (by simp), bnew _ _⟩
  case round =>
    obtain ⟨m, ys, av, cv, hm, hnum, rfl, rfl, hrow, hbel⟩ := hrel
    by_cases hp : 0 < m
    · obtain ⟨r, rfl⟩ : ∃ r, m = r + 1 := ⟨m - 1, by omega⟩
      have er : ((r + 1 : Nat) : Int) - 1 = (r : Int) := by omega
      rw [er]
      clear er
      go_wp2
      go_loop [7, 8] (fun x k => ∃ (j : Nat) (X : Int), j ≤ r ∧ k = .int .i64 j ∧ x = .int .i64 X ∧ Hid (X = shrN v j)) (fun _ k => r - (intOf k).toNat)
      case atStart => exact ⟨0, v, Nat.zero_le _, rfl, rfl, rfl⟩
      case round =>
        obtain ⟨j, X, hj, rfl, rfl, hX⟩ := hrel
        by_cases hlt : j < r
        · go_wp2
          exact ⟨⟨j + 1, X / 256, by omega, by go_num, rfl, by show _ = _; rw [shrN, hX.out]⟩, by simp [intOf]; omega⟩
        · have e : j = r := by omega
          subst e
          have hsz := hbel.size
          go_wp2_with (at_builtin; refine wpList_append_lies _ rfl _ _ _ rfl w.heap.size 5 ti _ 1 1 Tryd.underlying69 HI.out hz0 hz1 hz2 rfl (by omega) (.slice av ys.length cv) ys.length (ys.map (Value.int .u8)) rfl (by exact row_later hrow.out (bnew _ _)) ⟨wr.heap.size, 0, none⟩ 1 1 [.int .u8 (X % 256)] rfl rfl (by exact World.news_of_block (heap_alloc_new _ _)) (by simp [Value.oneCell']) (by omega) (by simp [maxLen]; omega) (by omega) (by simp; omega) (wr.heap.size + 1) (by simp) ?_; intro g5 cap5 w5 hown5 hgrow5 hat5 hlt5)
          have hB5 : Below w.heap.size w w5 := (bto hbel (bnew _ _)).grown hgrow5 (by simp; omega) (fun q hq => by
            rcases hrow.out.2 with ⟨he, _⟩ | ⟨g, cap, cur, he, hB, _⟩
            · rw [he] at hq; simp [Value.ownBlock] at hq
            · rw [he] at hq; simp [Value.ownBlock] at hq; omega)
          have hxs : ys.map (Value.int .u8) ++ [Value.int .u8 (X % 256)] = (ys ++ [X % 256]).map (Value.int .u8) := by simp
          have hle : (ys ++ [X % 256]).length = ys.length + 1 := by simp
          rw [hxs, ← hle] at hown5
          refine ⟨⟨j, ys ++ [X % 256], some ⟨g5, 0, none⟩, cap5, by rw [hle]; omega, ?_, rfl, by rw [hle], hown5, hB5⟩, by simp [intOf]⟩
          show _ = _
          rw [← hnum.out, numI, hX.out]
          simp
    · have e : m = 0 := by omega
      subst e
      have hcv := conv_row hrow.out
      go_wp2
      go_ret
      refine ⟨congrArg (fun x => Ending.returned (.string x)) ?_, hbel⟩
      rw [numS, ← hnum.out, numI, List.append_nil]
end Go.Proofs.YtoecnlhnfhongaaDoor
