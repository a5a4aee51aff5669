import Derived.Test.YteohobkigjmjlaaDoorProg
import Derived.Test.YteohobkigjmjlaaDoorConv1
namespace Go.Proofs.YteohobkigjmjlaaDoor
open Go.RowKit

theorem digits_pos {n : Nat} (h : 0 < n) (acc : List UInt8) : digits n n acc = digits (n / 10) (n / 10) ((48 + UInt8.ofNat (n % 10)) :: acc) := by
  obtain ⟨m, rfl⟩ : ∃ m, n = m + 1 := ⟨n - 1, by omega⟩
  conv => lhs; rw [digits]
  rw [if_neg (by omega)]
  exact digits_fuel _ _ _ _ (by omega) (Nat.le_refl _)

set_option maxRecDepth 100000 in
set_option maxHeartbeats 1000000 in
theorem markText_any (k : Nat) (w : World) (h0 : 0 < k) (h1 : k ≤ 1000000000) :
    Calls Tryd.prog 33 #[.int .i64 (k : Int)] w fun e w' => e = .returned (.string (mt k)) ∧ Below w.heap.size w w' := by
  have hk : ¬ ((k : Int) ≤ 0) := by omega
  have hcv := conv_one
  go_enter Tryd.func33, Tryd.ntmps33
  go_wp2
  go_loopw [0, 3] (fun a s wr => ∃ (n : Nat) (st : ByteArray), st.size + n ≤ k ∧ a = .int .i64 n ∧ s = .string st ∧ digits n n st.data.toList = digits k k [] ∧ Below w.heap.size w wr) (fun a _ _ => (intOf a).toNat)
  case atStart => exact ⟨k, ByteArray.empty, by simp, rfl, rfl, rfl, Below.refl _ _⟩
  case round =>
    obtain ⟨n, st, hn, rfl, rfl, hd, hbel⟩ := hrel
    have HD : Hid (digits n n st.data.toList = digits k k []) := hd
    clear hd
    have hsz : (st.size : Int) ≤ 1000000000 := by omega
    by_cases hp : 0 < n
    · go_wp2
      refine ⟨⟨n / 10, _, ?_, by go_num, rfl, ?_, hbel.alloc hbel.size _⟩, by simp [intOf]; omega⟩
      · rw [str_one_size]; omega
      · rw [str_one, ← digits_pos hp]; exact HD.out
    · go_wp2
      go_ret
      refine ⟨?_, hbel⟩
      have e0 : n = 0 := by omega
      have hd := HD.out
      rw [e0] at hd
      have e : st.data.toList = digits k k [] := by rw [← hd]; rfl
      have e2 : ((⟨#[109]⟩ : ByteArray) ++ st) = mt k := by
        unfold mt
        exact mk_toList _ _ (by rw [str_one, e])
      exact congrArg (fun x => Ending.returned (.string x)) e2

theorem markText_int (k : Int) (n : Nat) (hk : k = (n : Int)) (w : World) (h0 : 0 < n) (h1 : n ≤ 1000000000) :
    Calls Tryd.prog 33 #[.int .i64 k] w fun e w' => e = .returned (.string (mt n)) ∧ Below w.heap.size w w' := hk ▸ markText_any n w h0 h1
end Go.Proofs.YteohobkigjmjlaaDoor
