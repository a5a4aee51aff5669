import Derived.Test.YtagajcmdbifamacDoorProg
import Derived.Test.YtagajcmdbifamacDoorCurT
namespace Go.Proofs.YtagajcmdbifamacDoor
open Go.RowKit

/-- Block g holds m texts of at most k bytes each. -/
def RowT (w : World) (g m k : Nat) : Prop := ∃ (cur : Array Value) (t : TypeId), Blk w g cur t ∧ ∀ j, j < m → ∃ s : ByteArray, cur[j]? = some (.string s) ∧ s.size ≤ k
theorem RowT.but {w w' : World} {g m k B : Nat} (h : RowT w g m k) (hb : But B w w') (hne : g ≠ B) : RowT w' g m k := by
  obtain ⟨cur, t, h1, h2⟩ := h
  exact ⟨cur, t, (hb.block g (lt_of_block h1) hne).trans h1, h2⟩
theorem RowT.later {w w' : World} {g m k : Nat} (h : RowT w g m k) (hb : Below w.heap.size w w') : RowT w' g m k := by
  obtain ⟨cur, t, h1, h2⟩ := h
  exact ⟨cur, t, h1.later hb, h2⟩
theorem RowT.at {w : World} {g m k : Nat} (h : RowT w g m k) {j : Nat} (hj : j < m) : ∃ s : ByteArray, w.cell? ⟨g, j, none⟩ = some (.string s) ∧ s.size ≤ k := by
  obtain ⟨cur, t, h1, h2⟩ := h
  obtain ⟨s, e, hs⟩ := h2 j hj
  exact ⟨s, by rw [h1.cell]; exact e, hs⟩
theorem rowT_new (w : World) (L : List ByteArray) (k : Nat) (t : TypeId) (m : Nat) (hm : m = L.length) (h : (L.all fun s => decide (s.size ≤ k)) = true) : RowT (w.alloc (.cells (L.map .string).toArray t)) w.heap.size m k := by
  subst hm
  refine ⟨_, t, heap_alloc_new _ _, fun j hj => ⟨L[j], by simp [hj], ?_⟩⟩
  have := List.all_eq_true.1 h L[j] (List.getElem_mem hj)
  simpa using this
theorem CurB.lt {w : World} {B P N : Nat} (h : CurB w B P N) : B < w.heap.size := Nat.lt_of_lt_of_le h.up.1 h.up.2
theorem But.later {B : Nat} {w w' w'' : World} (h : But B w w') (hb : Below w'.heap.size w' w'') : But B w w'' := h.trans (But.of hb)

set_option maxRecDepth 100000 in
set_option maxHeartbeats 1000000 in
theorem drawValue_any (B P N : Nat) (w : World) (h : CurB w B P N) (hN : N ≤ 1000000) :
    Calls Tryd.prog 46 #[.pointer (some ⟨B, 0, none⟩)] w fun e w' => ∃ s : ByteArray, s.size ≤ 16 ∧ e = .returned (.string s) ∧ CurB w' B P (N + 10) ∧ But B w w' := by
  have HC : Hid (CurB w B P N) := h
  have hlt := h.lt
  clear h
  go_enter Tryd.func46, Tryd.ntmps46
  go_wp2_with fail
  have HR : Hid (RowT (w.alloc (.cells ([⟨#[97]⟩, ⟨#[98]⟩, ⟨#[119, 101, 98]⟩, ⟨#[120, 32, 121]⟩, ⟨#[195, 169]⟩, ⟨#[226, 130, 172]⟩, ⟨#[240, 159, 152, 128]⟩, ⟨#[49]⟩, ⟨#[45]⟩, ⟨#[122]⟩].map Value.string).toArray 9)) w.heap.size 10 4) := rowT_new w _ 4 _ 10 rfl (by decide)
  simp only [List.map_cons, List.map_nil] at HR
  have HC1 := HC.out.later (bnew w (.cells #[.string ⟨#[97]⟩, .string ⟨#[98]⟩, .string ⟨#[119, 101, 98]⟩, .string ⟨#[120, 32, 121]⟩, .string ⟨#[195, 169]⟩, .string ⟨#[226, 130, 172]⟩, .string ⟨#[240, 159, 152, 128]⟩, .string ⟨#[49]⟩, .string ⟨#[45]⟩, .string ⟨#[122]⟩] 9))
  refine (curPick_any B P N 4 _ HC1 (by omega) (by omega) (by omega)).mono ?_
  rintro e w1 ⟨n, hn, rfl, hc1, hb1⟩
  have H1 : Hid (CurB w1 B P (N + 1) ∧ But B w w1 ∧ RowT w1 w.heap.size 10 4) := ⟨hc1, (But.of (bnew _ _)).trans hb1, HR.out.but hb1 (by omega)⟩
  clear hc1 hb1 HC1 HR HC
  generalize hg : w.heap.size = g at *
  have HG : Hid (g ≠ B) := by show g ≠ B; omega
  clear hg hlt
  go_wp2
  go_loopw [4, 6] (fun s i wr => ∃ (k : Nat) (t : ByteArray), k ≤ n ∧ i = .int .i64 (k : Nat) ∧ s = .string t ∧ t.size ≤ 4 * k ∧ Hid (CurB wr B P (N + 1 + k) ∧ But B w wr ∧ RowT wr g 10 4)) (fun _ i _ => n - (intOf i).toNat)
  case atStart => exact ⟨0, ⟨#[]⟩, by omega, rfl, rfl, by decide, H1.out⟩
  case round =>
    obtain ⟨k, t, hk, rfl, rfl, ht, HR⟩ := hrel
    by_cases hkn : k < n
    · have hkn' : (k : Int) < (n : Int) := by omega
      go_wp2_with fail
      refine (curPick_any B P (N + 1 + k) 10 _ HR.out.1 (by omega) (by omega) (by omega)).mono ?_
      rintro e w2 ⟨v, hv, rfl, hc2, hb2⟩
      have HR2 := HR.out.2.2.but hb2 HG.out
      obtain ⟨s, hcell, hs⟩ := HR2.at hv
      have H2 : Hid (CurB w2 B P (N + 1 + (k + 1)) ∧ But B w w2 ∧ RowT w2 g 10 4) := ⟨hc2, HR.out.2.1.trans hb2, HR2⟩
      clear hc2 hb2 HR2
      have hv' : (v : Int) < 10 := by omega
      go_wp2
      exact ⟨⟨k + 1, t ++ s, by omega, by go_num, rfl, by rw [ByteArray.size_append]; omega, H2.out⟩, by simp [intOf]; omega⟩
    · have hkn' : ¬ ((k : Int) < (n : Int)) := by omega
      go_wp2
      go_ret
      exact ⟨t, by omega, rfl, HR.out.1.mono (by omega), HR.out.2.1⟩
end Go.Proofs.YtagajcmdbifamacDoor
