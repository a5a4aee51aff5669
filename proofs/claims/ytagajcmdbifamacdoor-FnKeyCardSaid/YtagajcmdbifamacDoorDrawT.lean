import Derived.Test.YtagajcmdbifamacDoorProg
import Derived.Test.YtagajcmdbifamacDoorDrawL
import Derived.Test.YtagajcmdbifamacDoorSNum
import Derived.Lib.AppendStr
namespace Go.Proofs.YtagajcmdbifamacDoor
open Go.RowKit Go.Lib

theorem row_form0 {w : World} {B : Nat} {e : TypeId} {size : Nat} {v : Value} {n : Nat} {xs : List Value} (h : w.ownsRow B e size v n xs) : ∃ a cap, v = .slice a n cap := by
  rcases h.2 with ⟨rfl, rfl⟩ | ⟨g, cap, cur, rfl, _⟩
  · exact ⟨_, _, rfl⟩
  · exact ⟨_, _, rfl⟩
theorem strOfNums_len (ys : List Int) : (strOfNums ys).size = ys.length := by
  rw [bsize]
  simp [strOfNums]
theorem strCells_nums (s : ByteArray) : ∃ zs : List Int, strCells s = zs.map (Value.int .u8) ∧ zs.length = s.size := by
  refine ⟨s.data.toList.map fun b => (b.toNat : Int), ?_, by rw [List.length_map, bsize]⟩
  simp [strCells]

set_option maxRecDepth 100000 in
set_option maxHeartbeats 1000000 in
theorem times_any (s : ByteArray) (n : Nat) (w : World) (hs : s.size ≤ 4) (hn : n ≤ 200) :
    Calls Tryd.prog 48 #[.string s, .int .i64 (n : Nat)] w fun e w' => ∃ t : ByteArray, t.size ≤ 4 * n ∧ e = .returned (.string t) ∧ Below w.heap.size w w' := by
  obtain ⟨ti, hti, hz0, hz1, hz2⟩ := info_u8
  have HI : Hid (Tryd.prog.info? 5 = some ti) := hti
  clear hti
  obtain ⟨zs, hzs, hzl⟩ := strCells_nums s
  have HZ : Hid (strCells s = zs.map (Value.int .u8) ∧ zs.length = s.size) := ⟨hzs, hzl⟩
  clear hzs hzl
  go_enter Tryd.func48, Tryd.ntmps48
  go_wp2
  go_loopw [5, 6] (fun out i wr => ∃ (k : Nat) (ys : List Int) (av : Option Addr) (cv : Nat), k ≤ n ∧ i = .int .i64 (k : Nat) ∧ out = .slice av ys.length cv ∧ ys.length ≤ 4 * k ∧ Hid (wr.ownsRow w.heap.size 5 1 (.slice av ys.length cv) ys.length (ys.map (Value.int .u8))) ∧ Below w.heap.size w wr) (fun _ i _ => n - (intOf i).toNat)
  case atStart =>
    exact ⟨0, [], _, _, by omega, rfl, rfl, by simp, World.ownsRow_made w #[] 0 (Nat.le_refl _) (by simp [maxLen]) (by simp), bnew _ _⟩
  case round =>
    obtain ⟨k, ys, av, cv, hk, rfl, rfl, hy, HROW, hbel⟩ := hrel
    have hsz := hbel.size
    by_cases hkn : k < n
    · have hkn' : (k : Int) < (n : Int) := by omega
      go_wp2_with (at_builtin; refine wpList_append_own_string _ rfl _ _ _ _ rfl w.heap.size 5 ti Tryd.underlying29 Tryd.underlying9 HI.out hz0 hz1 hz2 (.slice av ys.length cv) ys.length (ys.map (Value.int .u8)) rfl (by exact HROW.out) s rfl (by simp [maxLen]; omega) (by omega) (by omega) ?_; intro v5 w5 hown5 hgrow5 hat5)
      obtain ⟨a5, c5, rfl⟩ := row_form0 hown5
      have hB5 : Below w.heap.size w w5 := hbel.grown hgrow5 (by omega) (fun q hq => row_from HROW.out q hq)
      rw [HZ.out.1, ← List.map_append] at hown5
      have hle : (ys ++ zs).length = ys.length + s.size := by rw [List.length_append, HZ.out.2]
      rw [← hle] at hown5
      refine ⟨⟨k + 1, ys ++ zs, a5, c5, by omega, by go_num, by rw [hle], by omega, hown5, hB5⟩, by simp [intOf]; omega⟩
    · have hkn' : ¬ ((k : Int) < (n : Int)) := by omega
      have hcv := conv_row HROW.out
      go_wp2
      go_ret
      exact ⟨strOfNums ys, by rw [strOfNums_len]; omega, rfl, hbel⟩
end Go.Proofs.YtagajcmdbifamacDoor
