import Derived.Test.YteohobkigjmjlaaDoorProg
import Derived.Test.YteohobkigjmjlaaDoorJ01U8L
namespace Go.Proofs.YteohobkigjmjlaaDoor
open Go.RowKit

/-- A cursor lies in block B, its bytes below P; it has been asked at most N times. -/
def CurB (w : World) (B P N : Nat) : Prop := ∃ (a : Option Addr) (n cap k : Nat) (sd : Int), Blk w B #[.slice a n cap, .int .i64 (k : Nat), .int .i64 sd] 64 ∧ k ≤ N ∧ (0 ≤ sd ∧ sd < 2147483648) ∧ n ≤ 1048576 ∧ U8In w B P a n ∧ B < P ∧ P ≤ w.heap.size
theorem CurB.below {w w' : World} {B P N : Nat} (h : CurB w B P N) (hb : Below P w w') : CurB w' B P N := by
  obtain ⟨a, n, cap, k, sd, h1, h2, h3, h4, h5, h6, h7⟩ := h
  exact ⟨a, n, cap, k, sd, (hb.block B h6).trans h1, h2, h3, h4, h5.below hb, h6, Nat.le_trans h7 hb.size⟩
theorem CurB.up {w : World} {B P N : Nat} (h : CurB w B P N) : B < P ∧ P ≤ w.heap.size := by
  obtain ⟨a, n, cap, k, sd, h1, h2, h3, h4, h5, h6, h7⟩ := h
  exact ⟨h6, h7⟩
theorem CurB.later {w w' : World} {B P N : Nat} (h : CurB w B P N) (hb : Below w.heap.size w w') : CurB w' B P N := h.below (hb.mono h.up.2)
theorem CurB.mono {w : World} {B P N M : Nat} (h : CurB w B P N) (hm : N ≤ M) : CurB w B P M := by
  obtain ⟨a, n, cap, k, sd, h1, h2, h3⟩ := h
  exact ⟨a, n, cap, k, sd, h1, Nat.le_trans h2 hm, h3⟩
theorem Blk.drew {w : World} {g : Nat} {cur : Array Value} {t : TypeId} (h : Blk w g cur t) : Blk w.drew g cur t := h
theorem But.drewC {B : Nat} {w w' : World} (h : But B w w') : But B w w'.drew := ⟨h.os, h.tape, h.output, h.size, h.block⟩
theorem CurB.drew {w : World} {B P N : Nat} (h : CurB w B P N) : CurB w.drew B P N := h
set_option maxRecDepth 100000 in
set_option maxHeartbeats 1000000 in
theorem curByteA (B P N : Nat) (w : World) (a : Option Addr) (n cap k : Nat) (sd : Int) (hB : Blk w B #[.slice a n cap, .int .i64 (k : Nat), .int .i64 sd] 64) (hk : k ≤ N) (hsd0 : 0 ≤ sd) (hsd : sd < 2147483648) (hn : n ≤ 1048576) (hU : U8In w B P a n) (hP : B < P ∧ P ≤ w.heap.size) (hN : N ≤ 100000000) (c1 : 200 + 40 * n < k + 1) :
    Calls Tryd.prog 63 #[.pointer (some ⟨B, 0, none⟩)] w fun e w' => ∃ v : Nat, v < 256 ∧ e = .returned (.int .i64 (v : Nat)) ∧ CurB w' B P (N + 1) ∧ But B w w' := by
  have HB : Hid (Blk w B #[.slice a n cap, .int .i64 (k : Nat), .int .i64 sd] 64) := hB
  have x0 := Blk.cell hB 0
  have x1 := Blk.cell hB 1
  have x2 := Blk.cell hB 2
  simp only [List.getElem?_toArray, List.getElem?_cons_zero, List.getElem?_cons_succ] at x0 x1 x2
  have f0 := Blk.free hB 0
  have f1 := Blk.free hB 1
  have f2 := Blk.free hB 2
  clear hB
  have HU : Hid (U8In w B P a n ∧ B < P ∧ P ≤ w.heap.size) := ⟨hU, hP⟩
  clear hP
  have hk2 : (k : Int) ≤ 100000000 := by omega
  have hk3 : (0 : Int) ≤ (k : Int) := by omega
  have HK : Hid (k ≤ N) := hk
  clear hk hN
  clear hU
  have c1' : (200 + 40 * (n : Int)) < (k : Int) + 1 := by omega
  clear c1
  go_enter Tryd.func63, Tryd.ntmps63
  go_wp2
  go_region
  go_wp2
  have hE : ((k : Int) + 1) = ((k + 1 : Nat) : Int) := by omega
  go_ret
  refine ⟨0, by omega, rfl, ?_, ?_⟩
  · refine CurB.drew ⟨a, n, cap, k + 1, sd, ?_, Nat.succ_le_succ HK.out, ⟨hsd0, hsd⟩, hn, HU.out.1.but HU.out.2.2 ((But.refl _ _).setCell _ _), HU.out.2.1, by simpa using HU.out.2.2⟩
    have := Blk.set HB.out 1 (.int .i64 ((k : Int) + 1))
    rw [hE] at this ⊢
    exact this
  · exact But.drewC ((But.refl _ _).setCell _ _)

set_option maxRecDepth 100000 in
set_option maxHeartbeats 1000000 in
theorem curByteB (B P N : Nat) (w : World) (a : Option Addr) (n cap k : Nat) (sd : Int) (hB : Blk w B #[.slice a n cap, .int .i64 (k : Nat), .int .i64 sd] 64) (hk : k ≤ N) (hsd0 : 0 ≤ sd) (hsd : sd < 2147483648) (hn : n ≤ 1048576) (hU : U8In w B P a n) (hP : B < P ∧ P ≤ w.heap.size) (hN : N ≤ 100000000) (c1 : ¬ 200 + 40 * n < k + 1) (c2 : n < k + 1) :
    Calls Tryd.prog 63 #[.pointer (some ⟨B, 0, none⟩)] w fun e w' => ∃ v : Nat, v < 256 ∧ e = .returned (.int .i64 (v : Nat)) ∧ CurB w' B P (N + 1) ∧ But B w w' := by
  have HB : Hid (Blk w B #[.slice a n cap, .int .i64 (k : Nat), .int .i64 sd] 64) := hB
  have x0 := Blk.cell hB 0
  have x1 := Blk.cell hB 1
  have x2 := Blk.cell hB 2
  simp only [List.getElem?_toArray, List.getElem?_cons_zero, List.getElem?_cons_succ] at x0 x1 x2
  have f0 := Blk.free hB 0
  have f1 := Blk.free hB 1
  have f2 := Blk.free hB 2
  clear hB
  have HU : Hid (U8In w B P a n ∧ B < P ∧ P ≤ w.heap.size) := ⟨hU, hP⟩
  clear hP
  have hk2 : (k : Int) ≤ 100000000 := by omega
  have hk3 : (0 : Int) ≤ (k : Int) := by omega
  have HK : Hid (k ≤ N) := hk
  clear hk hN
  clear hU
  have c1' : ¬ ((200 + 40 * (n : Int)) < (k : Int) + 1) := by omega
  have c2' : ((n : Int)) < (k : Int) + 1 := by omega
  clear c1 c2
  go_enter Tryd.func63, Tryd.ntmps63
  go_wp2
  go_region
  go_wp2
  go_region
  go_wp2
  have hE : ((k : Int) + 1) = ((k + 1 : Nat) : Int) := by omega
  refine bodyPost_ret (v := .int .i64 ((sd * 1103515245 + 12345) % 2147483648 / 65536 % 256)) (by simp [results, Tryd.results63, go_sem]) rfl ?_
  generalize sd * 1103515245 + 12345 = X
  refine ⟨(X % 2147483648 / 65536 % 256).toNat, by omega, by rw [Int.toNat_of_nonneg (by omega)], ?_, ?_⟩
  · refine CurB.drew (CurB.drew ⟨a, n, cap, k + 1, X % 2147483648, ?_, Nat.succ_le_succ HK.out, ⟨by omega, by omega⟩, hn, HU.out.1.but HU.out.2.2 (((But.refl _ _).setCell _ _).setCell _ _), HU.out.2.1, by simpa using HU.out.2.2⟩)
    have := Blk.set (Blk.set HB.out 1 (.int .i64 ((k : Int) + 1))) 2 (.int .i64 (X % 2147483648))
    rw [hE] at this ⊢
    exact this
  · exact But.drewC (But.drewC (((But.refl _ _).setCell _ _).setCell _ _))

set_option maxRecDepth 100000 in
set_option maxHeartbeats 1000000 in
theorem curByteC (B P N : Nat) (w : World) (a : Option Addr) (n cap k : Nat) (sd : Int) (hB : Blk w B #[.slice a n cap, .int .i64 (k : Nat), .int .i64 sd] 64) (hk : k ≤ N) (hsd0 : 0 ≤ sd) (hsd : sd < 2147483648) (hn : n ≤ 1048576) (hU : U8In w B P a n) (hP : B < P ∧ P ≤ w.heap.size) (hN : N ≤ 100000000) (c2 : ¬ n < k + 1) :
    Calls Tryd.prog 63 #[.pointer (some ⟨B, 0, none⟩)] w fun e w' => ∃ v : Nat, v < 256 ∧ e = .returned (.int .i64 (v : Nat)) ∧ CurB w' B P (N + 1) ∧ But B w w' := by
  have HB : Hid (Blk w B #[.slice a n cap, .int .i64 (k : Nat), .int .i64 sd] 64) := hB
  have x0 := Blk.cell hB 0
  have x1 := Blk.cell hB 1
  have x2 := Blk.cell hB 2
  simp only [List.getElem?_toArray, List.getElem?_cons_zero, List.getElem?_cons_succ] at x0 x1 x2
  have f0 := Blk.free hB 0
  have f1 := Blk.free hB 1
  have f2 := Blk.free hB 2
  clear hB
  have HU : Hid (U8In w B P a n ∧ B < P ∧ P ≤ w.heap.size) := ⟨hU, hP⟩
  clear hP
  have hk2 : (k : Int) ≤ 100000000 := by omega
  have hk3 : (0 : Int) ≤ (k : Int) := by omega
  have HK : Hid (k ≤ N) := hk
  clear hk hN
  rcases hU with h0 | ⟨b, o, rfl, hne, hlt, hc⟩
  · omega
  obtain ⟨v, hv, hcv⟩ := hc k (by omega)
  clear hc
  have c1' : ¬ ((200 + 40 * (n : Int)) < (k : Int) + 1) := by omega
  have c2' : ¬ ((n : Int) < (k : Int) + 1) := by omega
  clear c2
  go_enter Tryd.func63, Tryd.ntmps63
  go_wp2
  go_region
  go_wp2
  go_region
  go_wp2
  go_region
  go_wp2
  go_region
  go_wp2
  have hE : ((k : Int) + 1) = ((k + 1 : Nat) : Int) := by omega
  refine bodyPost_ret (v := .int .i64 (v : Nat)) (by simp [results, Tryd.results63, go_sem]) rfl ?_
  generalize sd * 31 + v + 7 = X
  refine ⟨v, by omega, rfl, ?_, ?_⟩
  · refine CurB.drew (CurB.drew (CurB.drew (CurB.drew ⟨some ⟨b, o, none⟩, n, cap, k + 1, X % 2147483648, ?_, Nat.succ_le_succ HK.out, ⟨by omega, by omega⟩, hn, HU.out.1.but HU.out.2.2 (((But.refl _ _).setCell _ _).setCell _ _), HU.out.2.1, by simpa using HU.out.2.2⟩)))
    have := Blk.set (Blk.set HB.out 1 (.int .i64 ((k : Int) + 1))) 2 (.int .i64 (X % 2147483648))
    rw [hE] at this ⊢
    exact this
  · exact But.drewC (But.drewC (But.drewC (But.drewC (((But.refl _ _).setCell _ _).setCell _ _))))

theorem curByte_any (B P N : Nat) (w : World) (h : CurB w B P N) (hN : N ≤ 100000000) :
    Calls Tryd.prog 63 #[.pointer (some ⟨B, 0, none⟩)] w fun e w' => ∃ v : Nat, v < 256 ∧ e = .returned (.int .i64 (v : Nat)) ∧ CurB w' B P (N + 1) ∧ But B w w' := by
  obtain ⟨a, n, cap, k, sd, hB, hk, ⟨hs0, hs1⟩, hn, hU, hP⟩ := h
  by_cases c1 : 200 + 40 * n < k + 1
  · exact curByteA B P N w a n cap k sd hB hk hs0 hs1 hn hU hP hN c1
  · by_cases c2 : n < k + 1
    · exact curByteB B P N w a n cap k sd hB hk hs0 hs1 hn hU hP hN c1 c2
    · exact curByteC B P N w a n cap k sd hB hk hs0 hs1 hn hU hP hN c2

set_option maxRecDepth 100000 in
set_option maxHeartbeats 1000000 in
theorem curPick_any (B P N n : Nat) (w : World) (h : CurB w B P N) (hN : N ≤ 10000000) (h2 : 2 ≤ n) (hn : n ≤ 256) :
    Calls Tryd.prog 45 #[.pointer (some ⟨B, 0, none⟩), .int .i64 (n : Nat)] w fun e w' => ∃ v : Nat, v < n ∧ e = .returned (.int .i64 (v : Nat)) ∧ CurB w' B P (N + 1) ∧ But B w w' := by
  have HC : Hid (Calls Tryd.prog 63 #[.pointer (some ⟨B, 0, none⟩)] w fun e w' => ∃ v : Nat, v < 256 ∧ e = .returned (.int .i64 (v : Nat)) ∧ CurB w' B P (N + 1) ∧ But B w w') := curByte_any B P N w h (by omega)
  clear h hN
  have h1 : ¬ ((n : Int) ≤ 1) := by omega
  have h3 : (n : Int) ≤ 256 := by omega
  have h4 : (n : Int) ≠ 0 := by omega
  go_enter Tryd.func45, Tryd.ntmps45
  go_wp2_with fail
  refine HC.out.mono ?_
  rintro e w1 ⟨v, hv, rfl, hc1, hb1⟩
  have H1 : Hid (CurB w1 B P (N + 1) ∧ But B w w1) := ⟨hc1, hb1⟩
  clear hc1 hb1
  go_wp2
  go_ret
  exact ⟨v % n, Nat.mod_lt _ (by omega), rfl, H1.out⟩
theorem curPick1_any (B n : Nat) (w : World) (hn : n ≤ 1) :
    Calls Tryd.prog 45 #[.pointer (some ⟨B, 0, none⟩), .int .i64 (n : Nat)] w fun e w' => e = .returned (.int .i64 0) ∧ w' = w := by
  have h1 : (n : Int) ≤ 1 := by omega
  go_enter Tryd.func45, Tryd.ntmps45
  go_wp2
  go_ret
  exact ⟨rfl, rfl⟩

end Go.Proofs.YteohobkigjmjlaaDoor

