import Derived.Test.YtmggmbidihjblaaDoorProg
import Derived.Test.YtmggmbidihjblaaDoorShelf
import Derived.Test.YtmggmbidihjblaaDoorS7Sp
import Derived.Lib.IndexBytes
namespace Go.Proofs.YtmggmbidihjblaaDoor
open Go.RowKit

theorem idxB (l : List UInt8) (a : UInt8) : Lib.indexByte l a = Lib.index l [a] := (Lib.index_one l a).symm

set_option maxHeartbeats 2000000 in
set_option maxRecDepth 100000 in
theorem index32_any (s : ByteArray) (w : World) :
    Calls Tryd.prog 24 #[.string s, .string ⟨#[32]⟩] w fun e w' => e = .returned (.int .i64 (Lib.index s.data.toList [32])) ∧ w' = w := by
  have HB : Hid (∀ W, Calls Tryd.prog 27 #[.string s, .int .u8 32] W fun e w' => e = .returned (.int .i64 (Lib.index s.data.toList [32])) ∧ w' = W) := fun W => by
    have := Tryd.stringslite_IndexByte s 32 W
    rw [idxB] at this
    exact this
  cases hq : ([32] == s.toList) with
  | true =>
    have HI : Hid (Lib.index s.data.toList [32] = 0) := by
      show _ = _
      have := beq_iff_eq.1 hq
      rw [ByteArray.toList_eq] at this
      rw [← this]
      rfl
    generalize Lib.index s.data.toList [32] = I at *
    go_enter Tryd.func24, Tryd.ntmps24
    go_wp2
    go_ret
    exact ⟨by rw [HI.out]; rfl, rfl⟩
  | false =>
    generalize Lib.index s.data.toList [32] = I at *
    go_enter Tryd.func24, Tryd.ntmps24
    go_wp2_with fail
    refine (HB.out _).mono ?_
    rintro e w1 ⟨rfl, rfl⟩
    go_wp2
    go_ret
    exact ⟨rfl, rfl⟩

set_option maxHeartbeats 2000000 in
set_option maxRecDepth 100000 in
theorem cut32_any (s : ByteArray) (w : World) (hs : s.size ≤ 1048576) :
    Calls Tryd.prog 17 #[.string s, .string ⟨#[32]⟩] w fun e w' => e = .returned (.tuple #[.string (baL (cutA 32 s.data.toList).1), .string (baL (cutA 32 s.data.toList).2.1), .bool (cutA 32 s.data.toList).2.2]) ∧ Below w.heap.size w w' := by
  have hlen : s.data.toList.length = s.size := Array.length_toList
  have hC : Calls Tryd.prog 22 #[.string s, .string ⟨#[32]⟩] w fun e w' => e = .returned (.tuple #[.string (baL (cutA 32 s.data.toList).1), .string (baL (cutA 32 s.data.toList).2.1), .bool (cutA 32 s.data.toList).2.2]) ∧ Below w.heap.size w w' := by
    have HX : Hid (∀ W, Calls Tryd.prog 24 #[.string s, .string ⟨#[32]⟩] W fun e w' => e = .returned (.int .i64 (Lib.index s.data.toList [32])) ∧ w' = W) := fun W => index32_any s W
    rcases at_first 32 s.data.toList with h | ⟨u, v, hl, h⟩
    · have E : Hid (cutA 32 s.data.toList = (s.data.toList, [], false)) := cutA_none h
      have HS : Hid (baL s.data.toList = s) := baL_back s
      rw [idx_none h] at HX
      rw [E.out, HS.out]
      clear h
      go_enter Tryd.func22, Tryd.ntmps22
      go_wp2_with fail
      refine (HX.out _).mono ?_
      rintro e w1 ⟨rfl, rfl⟩
      go_wp2
      refine bodyPost_ret (v := .tuple #[.string s, .string ⟨#[]⟩, .bool false]) (by simp [results, Tryd.results22, go_sem]) rfl ⟨rfl, Below.refl _ _⟩
    · have hul : u.length + 1 + v.length = s.size := by rw [← hlen, hl]; simp; omega
      have E : Hid (cutA 32 s.data.toList = (u, v, true)) := by show _ = _; rw [hl]; exact cutA_app h
      have E1 : Hid (s.extract 0 u.length = baL u) := by show _ = _; rw [ext_is, hl]; simp
      have E2 : Hid (s.extract (u.length + 1) s.size = baL v) := by show _ = _; rw [ext_end, hl]; simp
      have HX2 : Hid (∀ W, Calls Tryd.prog 24 #[.string s, .string ⟨#[32]⟩] W fun e w' => e = .returned (.int .i64 (u.length : Int)) ∧ w' = W) := fun W => by
        have := HX.out W
        rw [hl, idx_app h] at this
        exact this
      rw [E.out, ← E1.out, ← E2.out]
      clear HX h hl E hlen
      generalize u.length = n at *
      generalize v.length = k at *
      have hn1 : (n : Int) + 1 ≤ (s.size : Int) := by omega
      clear E1 E2
      go_enter Tryd.func22, Tryd.ntmps22
      go_wp2_with fail
      refine (HX2.out _).mono ?_
      rintro e w1 ⟨rfl, rfl⟩
      go_wp2_with fail
      go_region
      go_wp2
      refine bodyPost_ret (v := .tuple #[.string (s.extract 0 n), .string (s.extract (n + 1) s.size), .bool true]) (by simp [results, Tryd.results22, go_sem]) rfl ⟨rfl, (Below.refl _ _).drew⟩
  have HH := hid hC
  clear hC
  generalize baL (cutA 32 s.data.toList).1 = A at *
  generalize baL (cutA 32 s.data.toList).2.1 = B at *
  generalize (cutA 32 s.data.toList).2.2 = M at *
  go_enter Tryd.func17, Tryd.ntmps17
  go_wp2_with fail
  refine HH.out.mono ?_
  rintro e w1 ⟨rfl, hb⟩
  go_wp2
  refine bodyPost_ret (v := .tuple #[.string A, .string B, .bool M]) (by simp [results, Tryd.results17, go_sem]) rfl ⟨rfl, hb⟩
end Go.Proofs.YtmggmbidihjblaaDoor
