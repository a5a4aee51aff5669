import Derived.Test.YtoecnlhnfhongaaDoorProg
import Derived.Test.YtoecnlhnfhongaaDoorShelf
import Derived.Test.YtoecnlhnfhongaaDoorS8L
import Derived.Test.YtoecnlhnfhongaaDoorIHigh
import Derived.Test.YtoecnlhnfhongaaDoorStrR
import Derived.Deep.RegionHeld3
namespace Go.Proofs.YtoecnlhnfhongaaDoor
open Go.RowKit

def catB : List ByteArray → ByteArray
  | [] => ByteArray.empty
  | x :: r => x ++ catB r
theorem catB_append : ∀ (a b : List ByteArray), catB (a ++ b) = catB a ++ catB b
  | [], b => by simp [catB]
  | x :: r, b => by
    show x ++ catB (r ++ b) = x ++ catB r ++ catB b
    rw [catB_append r b, ByteArray.append_assoc]
theorem cat_list (xs : List ByteArray) : (catB xs).data.toList = (xs.map (·.data.toList)).flatten := by
  induction xs with
  | nil => rfl
  | cons x r ih => simp [catB, ih]
theorem join_cat (xs : List ByteArray) : Lib.join (xs.map (·.data.toList)) ByteArray.empty.data.toList = (catB xs).data.toList := by
  have e : ByteArray.empty.data.toList = [] := rfl
  rw [cat_list, e]
  cases xs with
  | nil => rfl
  | cons x r =>
    rw [List.map_cons, Lib.join_cons, Lib.joinTail]
    simp
    rfl
theorem arr_cat (xs : List ByteArray) : (⟨(Lib.join (xs.map (·.data.toList)) ByteArray.empty.data.toList).toArray⟩ : ByteArray) = catB xs := by
  rw [join_cat]
def sumB : List ByteArray → Nat
  | [] => 0
  | x :: r => x.size + sumB r
theorem catB_size : ∀ (xs : List ByteArray), (catB xs).size = sumB xs
  | [] => rfl
  | x :: r => by rw [catB, ByteArray.size_append, catB_size r, sumB]
theorem sumB_append : ∀ (a b : List ByteArray), sumB (a ++ b) = sumB a + sumB b
  | [], b => by simp [sumB]
  | x :: r, b => by show x.size + sumB (r ++ b) = x.size + sumB r + sumB b; rw [sumB_append r b]; omega

theorem implU8_any (n : Nat) (w : World) : Calls Tryd.prog 38 #[.int .i64 (n : Nat)] w fun e w' => e = .returned (.string (numS 1 (n : Nat))) ∧ Below w.heap.size w w' := by
  have HC : Hid (∀ W, Calls Tryd.prog 55 #[.int .i64 (n : Nat), .int .i64 1] W fun e w' => e = .returned (.string (numS 1 (n : Nat))) ∧ Below W.heap.size W w') := fun W => implHigh_any 1 (n : Nat) W (by omega)
  generalize numS 1 (n : Nat) = N at *
  go_enter Tryd.func38, Tryd.ntmps38
  go_wp2_with fail
  refine (HC.out _).mono ?_
  rintro e w1 ⟨rfl, hb1⟩
  have HB : Hid (Below w.heap.size w w1) := hb1
  clear hb1
  go_wp2
  go_ret
  exact ⟨rfl, HB.out⟩

theorem joined_any (g n cap : Nat) (xs : List ByteArray) (w : World) (hn : n = xs.length) (hc : ∀ (j : Nat) x, xs[j]? = some x → w.cell? ⟨g, 0 + j, none⟩ = some (.string x)) (hg : g < w.heap.size) (hcap : xs.length ≤ cap) (hl : xs.length ≤ 1000000000) (hz : sumB xs ≤ 140737488355328) :
    Calls Tryd.prog 44 #[.slice (some ⟨g, 0, none⟩) n cap] w fun e w' => e = .returned (.string (catB xs)) ∧ Below w.heap.size w w' := by
  subst hn
  have HC : Hid (Calls Tryd.prog 56 #[.slice (some ⟨g, 0, none⟩) xs.length cap, .string ByteArray.empty] w fun e w' => e = .returned (.string (catB xs)) ∧ Below w.heap.size w w') := by
    have h := Tryd.strings_Join g 0 cap xs ByteArray.empty w hc hg (by omega) hcap (by rw [join_cat, ← Lib.size_eq, catB_size]; exact hz)
    rw [arr_cat] at h
    exact h
  clear hc hz
  generalize catB xs = C at *
  generalize xs.length = n at *
  go_enter Tryd.func44, Tryd.ntmps44
  go_wp2_with fail
  refine HC.out.mono ?_
  rintro e w1 ⟨rfl, hb1⟩
  have HB : Hid (Below w.heap.size w w1) := hb1
  clear hb1
  go_wp2
  go_ret
  exact ⟨rfl, HB.out⟩

theorem two_cells {W : World} {x y : ByteArray} {t : TypeId} : ∀ (j : Nat) z, [x, y][j]? = some z → (W.alloc (.cells #[.string x, .string y] t)).cell? ⟨W.heap.size, 0 + j, none⟩ = some (.string z) := by
  intro j z h
  rw [cell_of_row _ W.heap.size _ _ _ _ (heap_alloc_new _ _), Nat.zero_add]
  match j, h with
  | 0, h => simp at h; simp [h]
  | 1, h => simp at h; simp [h]
  | j + 2, h => simp at h

theorem implS8_any (s : ByteArray) (w : World) (hs : s.size ≤ 1000000000) : Calls Tryd.prog 39 #[.string s] w fun e w' => e = .returned (.string (s8B s)) ∧ Below w.heap.size w w' := by
  have HU : Hid (∀ W, Calls Tryd.prog 38 #[.int .i64 (s.size : Nat)] W fun e w' => e = .returned (.string (numS 1 (s.size : Nat))) ∧ Below W.heap.size W w') := fun W => implU8_any s.size W
  have hz := numS_size 1 (s.size : Nat)
  unfold s8B
  generalize numS 1 (s.size : Nat) = N at *
  have HJ : Hid (∀ W : World, Calls Tryd.prog 44 #[.slice (some ⟨W.heap.size, 0, none⟩) 2 2] (W.alloc (.cells #[.string N, .string s] 9)) fun e w' => e = .returned (.string (N ++ s)) ∧ Below (W.alloc (.cells #[.string N, .string s] 9)).heap.size (W.alloc (.cells #[.string N, .string s] 9)) w') := fun W => by
    have h := joined_any W.heap.size 2 2 [N, s] (W.alloc (.cells #[.string N, .string s] 9)) rfl two_cells (by simp) (by simp) (by simp) (by simp [sumB]; omega)
    have e : catB [N, s] = N ++ s := by simp [catB]
    rw [e] at h
    exact h
  go_enter Tryd.func39, Tryd.ntmps39
  go_wp2_with fail
  refine (HU.out _).mono ?_
  rintro e w1 ⟨rfl, hb1⟩
  have HB : Hid (Below w.heap.size w w1) := hb1
  clear hb1
  go_wp2_with fail
  refine (HJ.out _).mono ?_
  rintro e w2 ⟨rfl, hb2⟩
  have HB2 : Hid (Below w.heap.size w w2) := bto (bto HB.out (bnew _ _)) hb2
  clear hb2
  go_wp2
  go_ret
  exact ⟨rfl, HB2.out⟩
theorem implS16_any (s : ByteArray) (w : World) (hs : s.size ≤ 1000000000) : Calls Tryd.prog 43 #[.string s] w fun e w' => e = .returned (.string (s16B s)) ∧ Below w.heap.size w w' := by
  have HU : Hid (∀ W, Calls Tryd.prog 55 #[.int .i64 (s.size : Nat), .int .i64 2] W fun e w' => e = .returned (.string (numS 2 (s.size : Nat))) ∧ Below W.heap.size W w') := fun W => implHigh_any 2 (s.size : Nat) W (by omega)
  have hz := numS_size 2 (s.size : Nat)
  unfold s16B
  generalize numS 2 (s.size : Nat) = N at *
  have HJ : Hid (∀ W : World, Calls Tryd.prog 44 #[.slice (some ⟨W.heap.size, 0, none⟩) 2 2] (W.alloc (.cells #[.string N, .string s] 9)) fun e w' => e = .returned (.string (N ++ s)) ∧ Below (W.alloc (.cells #[.string N, .string s] 9)).heap.size (W.alloc (.cells #[.string N, .string s] 9)) w') := fun W => by
    have h := joined_any W.heap.size 2 2 [N, s] (W.alloc (.cells #[.string N, .string s] 9)) rfl two_cells (by simp) (by simp) (by simp) (by simp [sumB]; omega)
    have e : catB [N, s] = N ++ s := by simp [catB]
    rw [e] at h
    exact h
  go_enter Tryd.func43, Tryd.ntmps43
  go_wp2_with fail
  refine (HU.out _).mono ?_
  rintro e w1 ⟨rfl, hb1⟩
  have HB : Hid (Below w.heap.size w w1) := hb1
  clear hb1
  go_wp2_with fail
  refine (HJ.out _).mono ?_
  rintro e w2 ⟨rfl, hb2⟩
  have HB2 : Hid (Below w.heap.size w w2) := bto (bto HB.out (bnew _ _)) hb2
  clear hb2
  go_wp2
  go_ret
  exact ⟨rfl, HB2.out⟩
end Go.Proofs.YtoecnlhnfhongaaDoor
