import Derived.Test.YtflfopienjjlbaaGreatDoorProg
import Derived.Test.YtflfopienjjlbaaGreatDoorJ08Find
import Derived.Test.YtflfopienjjlbaaGreatDoorJ10SFrame
import Derived.Test.YtflfopienjjlbaaGreatDoorJ01Drive
import Derived.Deep.AppendLies
import Derived.RangeFuncBox
import Derived.RangeFuncLeaves
import Derived.Shelf.Abstract
import Derived.WalkKit
import Derived.OwnWalkIn
import Derived.TacticsInMore
import Derived.LoopNIn
import Derived.LoopIn
import Derived.Maps.AppendAt
namespace Go.Proofs.YtflfopienjjlbaaGreatDoor
open Go.RowKit

set_option maxHeartbeats 1000000 in
theorem specGet_any (s : ByteArray) (p n : Nat) (w : World) (hs : s.size ≤ maxLen) (h : p + n ≤ s.size) (hn : n ≤ 7) :
    Calls Tryz.prog 88 #[.string s, .int .i64 p, .int .i64 n] w fun e w' => e = .returned (.int .i64 (beL (sectL s p n) : Nat)) ∧ w' = w := by
  unfold maxLen at hs
  go_enter Tryz.func88, Tryz.ntmps88
  go_wp2
  go_loop [7, 8] (fun v i => ∃ (k V : Nat), k ≤ n ∧ i = .int .i64 k ∧ v = .int .i64 V ∧ Hid (V = beL (sectL s p k))) (fun _ i => n - (intOf i).toNat)
  case atStart => exact ⟨0, 0, Nat.zero_le _, rfl, rfl, rfl⟩
  case round =>
    obtain ⟨k, V, hk, rfl, rfl, hV⟩ := hrel
    have hlt64 : V < 72057594037927936 := by
      have h1 := beL_lt (sectL s p k)
      rw [sectL_length (by omega), ← hV.out] at h1
      have h2 : 256 ^ k ≤ 256 ^ 7 := Nat.pow_le_pow_right (by omega) (by omega)
      omega
    by_cases hlt : k < n
    · have hV7 : V * 256 + 255 < 9223372036854775807 := by
        have h1 := beL_lt (sectL s p k)
        rw [sectL_length (by omega), ← hV.out] at h1
        have h2 : 256 ^ k ≤ 256 ^ 6 := Nat.pow_le_pow_right (by omega) (by omega)
        omega
      have hi0 : (0 : Int) ≤ (p : Int) + (k : Int) := by omega
      have hi1 : (p : Int) + (k : Int) < (s.size : Int) := by omega
      have hi2 : p + k < s.size := by omega
      have hU := s[p + k].toNat_lt
      go_wp2
      exact ⟨⟨k + 1, V * 256 + s[p + k].toNat, by omega, by go_num, by go_num, by show _ = _; rw [sectL_snoc hi2, beL_snoc, hV.out]⟩, by simp [intOf]; omega⟩
    · go_wp2
      go_ret
      have e : k = n := by omega
      subst e
      exact ⟨ret_int (by rw [hV.out]), rfl⟩
end Go.Proofs.YtflfopienjjlbaaGreatDoor

namespace Go.Proofs.YtflfopienjjlbaaGreatDoor
open Go.RowKit

theorem str_eq {x y : ByteArray} : (x.toList == y.toList) = true ↔ x = y := ⟨fun h => toList_inj (by simpa using h), fun h => by rw [h]; simp⟩
theorem str_ne {x y : ByteArray} : (x.toList == y.toList) = false ↔ x ≠ y := by rw [← Bool.not_eq_true, str_eq]
theorem str_nil {x : ByteArray} : x.toList.isEmpty = true ↔ x = ByteArray.empty := by
  rw [List.isEmpty_iff]
  constructor
  · intro h
    exact toList_inj (by rw [h, ByteArray.toList_eq]; rfl)
  · intro h
    rw [h, ByteArray.toList_eq]; rfl
theorem str_some {x : ByteArray} : x.toList.isEmpty = false ↔ x ≠ ByteArray.empty := by rw [← Bool.not_eq_true, str_nil]

end Go.Proofs.YtflfopienjjlbaaGreatDoor

namespace Go.Proofs.YtflfopienjjlbaaGreatDoor
open Go.RowKit

set_option maxRecDepth 100000 in
set_option maxHeartbeats 1000000 in
theorem specFirst_any (d : ByteArray) (w : World) (hs : d.size ≤ maxLen) :
    Calls Tryz.prog 59 #[.string d] w fun e w' => e = .returned (.string (firstS d)) ∧ Below w.heap.size w w' := by
  have HS : Hid (d.size ≤ maxLen) := hs
  unfold maxLen at hs
  by_cases h8 : d.size < 8
  · have E : Hid (firstS d = ByteArray.empty) := if_pos h8
    go_enter Tryz.func59, Tryz.ntmps59
    go_wp2
    go_ret
    exact ⟨ret_str E.out.symm, Below.refl _ _⟩
  · have E0 : Hid (firstS d = if d.size - 8 < headN d then ByteArray.empty
      else if frameS (d.extract 8 (8 + headN d)) = ByteArray.empty ∨ frameS (d.extract 8 (8 + headN d)) ≠ d.extract 0 (8 + headN d) then ByteArray.empty
      else d.extract 8 (8 + headN d)) := if_neg h8
    have hg : ∀ w, Calls Tryz.prog 88 #[.string d, .int .i64 0, .int .i64 4] w fun e w' => e = .returned (.int .i64 (headN d : Nat)) ∧ w' = w := fun w => specGet_any d 0 4 w HS.out (by omega) (by omega)
    have HG : Hid (∀ w, Calls Tryz.prog 88 #[.string d, .int .i64 0, .int .i64 4] w fun e w' => e = .returned (.int .i64 (headN d : Nat)) ∧ w' = w) := hg
    have hN : headN d < 4294967296 := by
      have := beL_lt (sectL d 0 4)
      rw [sectL_length (by omega)] at this
      exact this
    clear hg
    have hf : ∀ w, headN d ≤ d.size - 8 → Calls Tryz.prog 89 #[.string (d.extract 8 (8 + headN d))] w fun e w' => e = .returned (.string (frameS (d.extract 8 (8 + headN d)))) ∧ Below w.heap.size w w' := fun w h => specFrame_any _ w (by rw [part_size (by omega)]; unfold maxLen; omega)
    have HFR : Hid (∀ w, headN d ≤ d.size - 8 → Calls Tryz.prog 89 #[.string (d.extract 8 (8 + headN d))] w fun e w' => e = .returned (.string (frameS (d.extract 8 (8 + headN d)))) ∧ Below w.heap.size w w') := hf
    clear hf
    generalize frameS (d.extract 8 (8 + headN d)) = F at *
    generalize headN d = N at *
    by_cases h3 : d.size - 8 < N
    · have E : Hid (firstS d = ByteArray.empty) := by show _ = _; rw [E0.out, if_pos h3]
      go_enter Tryz.func59, Tryz.ntmps59
      go_wp2_with (go_at_call 88; refine (HG.out _).mono ?_; rintro e w' ⟨rfl, hw⟩; replace hw := hw.symm; subst hw)
      go_ret
      exact ⟨ret_str E.out.symm, Below.refl _ _⟩
    · go_enter Tryz.func59, Tryz.ntmps59
      go_wp2_with (go_at_call 88; refine (HG.out _).mono ?_; rintro e w' ⟨rfl, hw⟩; replace hw := hw.symm; subst hw)
      refine (HFR.out _ (by omega)).mono ?_
      rintro e w1 ⟨rfl, hb1⟩
      have HB : Hid (Below w.heap.size w w1) := hb1
      clear hb1
      by_cases hE : F = ByteArray.empty
      · have E : Hid (firstS d = ByteArray.empty) := by show _ = _; rw [E0.out, if_neg h3, if_pos (Or.inl hE)]
        have hEb : F.toList.isEmpty = true := str_nil.2 hE
        clear hE
        go_wp2
        go_ret
        exact ⟨ret_str E.out.symm, HB.out⟩
      · have hEb : F.toList.isEmpty = false := str_some.2 hE
        by_cases hD : F = d.extract 0 (8 + N)
        · have E : Hid (firstS d = d.extract 8 (8 + N)) := by show _ = _; rw [E0.out, if_neg h3, if_neg (by intro h; rcases h with h | h; exact hE h; exact h hD)]
          have hDb : (F.toList == (d.extract 0 (8 + N)).toList) = true := str_eq.2 hD
          clear hE hD
          go_wp2
          go_ret
          exact ⟨ret_str E.out.symm, HB.out⟩
        · have E : Hid (firstS d = ByteArray.empty) := by show _ = _; rw [E0.out, if_neg h3, if_pos (Or.inr hD)]
          have hDb : (F.toList == (d.extract 0 (8 + N)).toList) = false := str_ne.2 hD
          clear hE hD
          go_wp2
          go_ret
          exact ⟨ret_str E.out.symm, HB.out⟩
end Go.Proofs.YtflfopienjjlbaaGreatDoor

namespace Go.Proofs.YtflfopienjjlbaaGreatDoor
open Go.RowKit

theorem conv_one (w : World) (n : Int) : (convert 41 9 (.slice (some ⟨w.heap.size, 0, none⟩) 1 1)).run Tryz.prog (w.alloc (.cells #[.int .u8 n] 5)) = .ok (.string ⟨#[UInt8.ofNat n.toNat]⟩) (w.alloc (.cells #[.int .u8 n] 5)) := by
  rw [run_convert_bytes_string _ 41 9 5 _ 1 1 Tryz.underlying41 Tryz.underlying5 Tryz.underlying9, run_bytesToString _ _ 1 1 [n] (by simp [go_sem, loadCells])]
  rfl

theorem str_one (c : UInt8) (s : ByteArray) : ((⟨#[c]⟩ : ByteArray) ++ s).data.toList = c :: s.data.toList := by
  simp

theorem str_one_size (c : UInt8) (s : ByteArray) : ((⟨#[c]⟩ : ByteArray) ++ s).size = s.size + 1 := by
  rw [ByteArray.size_append]; show 1 + s.size = _; omega

theorem mk_toList (s : ByteArray) (l : List UInt8) (h : s.data.toList = l) : s = ⟨l.toArray⟩ := by
  subst h; simp

end Go.Proofs.YtflfopienjjlbaaGreatDoor

namespace Go.Proofs.YtflfopienjjlbaaGreatDoor
open Go.RowKit

theorem digits_pos {n : Nat} (h : 0 < n) (acc : List UInt8) : digits n n acc = digits (n / 10) (n / 10) ((48 + UInt8.ofNat (n % 10)) :: acc) := by
  obtain ⟨m, rfl⟩ : ∃ m, n = m + 1 := ⟨n - 1, by omega⟩
  conv => lhs; rw [digits]
  rw [if_neg (by omega)]
  exact digits_fuel _ _ _ _ (by omega) (Nat.le_refl _)

set_option maxRecDepth 100000 in
set_option maxHeartbeats 1000000 in
theorem markText_any (k : Nat) (w : World) (h0 : 0 < k) (h1 : k ≤ 1000000000) :
    Calls Tryz.prog 40 #[.int .i64 (k : Int)] w fun e w' => e = .returned (.string (mt k)) ∧ Below w.heap.size w w' := by
  have hk : ¬ ((k : Int) ≤ 0) := by omega
  have hcv := conv_one
  go_enter Tryz.func40, Tryz.ntmps40
  go_wp2
  go_loopw [0, 3] (fun a s wr => ∃ (n : Nat) (st : ByteArray), st.size + n ≤ k ∧ a = .int .i64 n ∧ s = .string st ∧ digits n n st.data.toList = digits k k [] ∧ Below w.heap.size w wr) (fun a _ _ => (intOf a).toNat)
  case atStart => exact ⟨k, ByteArray.empty, by simp, rfl, rfl, rfl, Below.refl _ _⟩
  case round =>
    obtain ⟨n, st, hn, rfl, rfl, hd, hbel⟩ := hrel
    have HD : Hid (digits n n st.data.toList = digits k k []) := hd
    clear hd
    have hsz : (st.size : Int) ≤ 1000000000 := by omega
    by_cases hp : 0 < n
    · go_wp2
      refine ⟨⟨n / 10, _, ?_, by go_num, rfl, ?_, hbel.alloc hbel.size _⟩, by simp [intOf]; omega⟩
      · rw [str_one_size]; omega
      · rw [str_one, ← digits_pos hp]; exact HD.out
    · go_wp2
      go_ret
      refine ⟨?_, hbel⟩
      have e0 : n = 0 := by omega
      have hd := HD.out
      rw [e0] at hd
      have e : st.data.toList = digits k k [] := by rw [← hd]; rfl
      have e2 : ((⟨#[109]⟩ : ByteArray) ++ st) = mt k := by
        unfold mt
        exact mk_toList _ _ (by rw [str_one, e])
      exact congrArg (fun x => Ending.returned (.string x)) e2

theorem markText_int (k : Int) (n : Nat) (hk : k = (n : Int)) (w : World) (h0 : 0 < n) (h1 : n ≤ 1000000000) :
    Calls Tryz.prog 40 #[.int .i64 k] w fun e w' => e = .returned (.string (mt n)) ∧ Below w.heap.size w w' := hk ▸ markText_any n w h0 h1
end Go.Proofs.YtflfopienjjlbaaGreatDoor

namespace Go.Proofs.YtflfopienjjlbaaGreatDoor
open Go.RowKit

/-- A slice's address holds these strings (nothing is asked where there are none). -/
def StrsIn (w : World) (a : Option Addr) (l : List ByteArray) : Prop := l = [] ∨ ∃ b o, a = some ⟨b, o, none⟩ ∧ b < w.heap.size ∧ ∀ i (h : i < l.length), w.cell? ⟨b, o + i, none⟩ = some (.string l[i])
theorem StrsIn.later {w w' : World} {a : Option Addr} {l : List ByteArray} (h : StrsIn w a l) (hb : Below w.heap.size w w') : StrsIn w' a l := by
  rcases h with h | ⟨b, o, rfl, hlt, h⟩
  · exact Or.inl h
  · exact Or.inr ⟨b, o, rfl, Nat.lt_of_lt_of_le hlt hb.size, fun i hi => by rw [← h i hi]; exact hb.cell hlt⟩
theorem StrsIn.at {w : World} {a : Option Addr} {l : List ByteArray} (h : StrsIn w a l) {i : Nat} (hi : i < l.length) : ∃ b o, a = some ⟨b, o, none⟩ ∧ b < w.heap.size ∧ w.cell? ⟨b, o + i, none⟩ = some (.string l[i]) := by
  rcases h with rfl | ⟨b, o, rfl, hlt, h⟩
  · exact absurd hi (by simp)
  · exact ⟨b, o, rfl, hlt, h i hi⟩
/-- The strings lie in a block of their own, from B on, that may be written. -/
def StrsOwn (w : World) (B : Nat) (a : Option Addr) (l : List ByteArray) : Prop :=
  l = [] ∨ ∃ g o cur t, a = some ⟨g, o, none⟩ ∧ B ≤ g ∧ w.heap[g]? = some (.cells cur t (0, 0)) ∧ ∀ i (h : i < l.length), w.cell? ⟨g, o + i, none⟩ = some (.string l[i])
theorem StrsOwn.strs {w : World} {B : Nat} {a : Option Addr} {l : List ByteArray} (h : StrsOwn w B a l) : StrsIn w a l := by
  rcases h with h | ⟨g, o, cur, t, e, _, hb, h⟩
  · exact Or.inl h
  · exact Or.inr ⟨g, o, e, lt_of_block hb, h⟩
theorem StrsOwn.later {w w' : World} {B : Nat} {a : Option Addr} {l : List ByteArray} (h : StrsOwn w B a l) (hb : Below w.heap.size w w') : StrsOwn w' B a l := by
  rcases h with h | ⟨g, o, cur, t, e, hB, hg, h⟩
  · exact Or.inl h
  · have hlt := lt_of_block hg
    exact Or.inr ⟨g, o, cur, t, e, hB, (hb.block g hlt).trans hg, fun i hi => by rw [← h i hi]; exact hb.cell hlt⟩
theorem strs_of_row {w : World} {B : Nat} {e : TypeId} {a : Option Addr} {cap : Nat} {l : List ByteArray} (h : w.ownsRow B e 1 (.slice a l.length cap) l.length (l.map Value.string)) : StrsOwn w B a l := by
  rcases h.2 with ⟨_, hl⟩ | ⟨g, cap', cur, he, hB, hg, _, _, hsz, htk⟩
  · exact Or.inl (List.length_eq_zero_iff.1 hl)
  · simp only [Value.slice.injEq] at he
    refine Or.inr ⟨g, 0, cur, e, he.1, hB, hg, fun i hi => ?_⟩
    rw [Nat.zero_add, cell_of_row w g i cur _ _ hg]
    have h2 : (cur.toList.take (l.length * 1))[i]? = (l.map Value.string)[i]? := by rw [htk]
    rw [List.getElem?_take_of_lt (by omega)] at h2
    rw [← Array.getElem?_toList, h2]
    simp [List.getElem?_eq_getElem hi]

theorem info_str : ∃ i, Tryz.prog.info? 9 = some i ∧ i.zero = some (.string ByteArray.empty) ∧ i.size = 1 ∧ i.bytes = 16 := by
  have h : (Tryz.prog.info? 9).map (fun i => (i.zero, i.size, i.bytes)) = some (some (.string ByteArray.empty), 1, 16) := by kernel_rfl
  obtain ⟨i, hi, hz⟩ := Option.map_eq_some_iff.1 h
  simp only [Prod.mk.injEq] at hz
  exact ⟨i, hi, hz.1, hz.2.1, hz.2.2⟩

end Go.Proofs.YtflfopienjjlbaaGreatDoor



namespace Go.Proofs.YtflfopienjjlbaaGreatDoor
open Go.RowKit

theorem extract_all (d : ByteArray) (p : Nat) (h : p ≤ d.size) : (d.extract p d.size).size = d.size - p := by rw [ByteArray.size_extract]; omega
theorem frame_len {d : ByteArray} (h : FrameAt d) : (d.extract 8 (8 + headN d)).size = headN d ∧ 1 ≤ headN d ∧ 8 + headN d ≤ d.size := by
  obtain ⟨h8, h1, _, h3, _⟩ := h
  exact ⟨part_size (by omega), h1, by omega⟩

set_option maxRecDepth 100000 in
set_option maxHeartbeats 1000000 in
theorem specScan_any (d : ByteArray) (w : World) (hs : d.size ≤ 1000000000) :
    Calls Tryz.prog 30 #[.string d] w fun e w' => ∃ a cap, e = .returned (.tuple #[.slice a (scanV d).1.length cap, .int .i64 ((scanV d).2 : Nat)]) ∧ StrsOwn w' w.heap.size a (scanV d).1 ∧ Below w.heap.size w w' := by
  have hml : d.size ≤ maxLen := by unfold maxLen; omega
  obtain ⟨ti, hti, hz0, hz1, hz2⟩ := info_str
  have HI : Hid (Tryz.prog.info? 9 = some ti) := hti
  clear hti
  go_enter Tryz.func30, Tryz.ntmps30
  go_wp2
  go_loopw [4, 5, 6] (fun out at_ _ wr => ∃ (n p : Nat) (ys : List ByteArray) (av : Option Addr) (cv : Nat), n + ys.length = d.size + 1 ∧ 9 * ys.length ≤ p ∧ p ≤ d.size ∧ Hid (ys ++ (scanR d n p).1 = (scanV d).1 ∧ (scanR d n p).2 = (scanV d).2) ∧ at_ = .int .i64 p ∧ out = .slice av ys.length cv ∧ Hid (wr.ownsRow w.heap.size 9 1 (.slice av ys.length cv) ys.length (ys.map Value.string)) ∧ Below w.heap.size w wr) (fun _ at_ _ _ => d.size - (intOf at_).toNat)
  case atStart =>
    exact ⟨d.size + 1, 0, [], _, _, by simp, by simp, Nat.zero_le _, ⟨rfl, rfl⟩, rfl, rfl, World.ownsRow_made w #[] 0 (Nat.le_refl _) (by simp [maxLen]) (by simp), bnew _ _⟩
  case round =>
    obtain ⟨n, p, ys, av, cv, hn, hy, hp, hsc, rfl, rfl, hrow, hbel⟩ := hrel
    obtain ⟨m, rfl⟩ : ∃ m, n = m + 1 := ⟨n - 1, by omega⟩
    have hDz := extract_all d p hp
    have hfi : ∀ W, Calls Tryz.prog 59 #[.string (d.extract p d.size)] W fun e w' => e = .returned (.string (firstS (d.extract p d.size))) ∧ Below W.heap.size W w' := fun W => specFirst_any _ W (by rw [hDz]; omega)
    by_cases hF : FrameAt (d.extract p d.size)
    · have hl := frame_len hF
      rw [firstS_eq, if_pos hF] at hfi
      have hsr : scanR d (m + 1) p = ((d.extract p d.size).extract 8 (8 + headN (d.extract p d.size)) :: (scanR d m (p + 8 + ((d.extract p d.size).extract 8 (8 + headN (d.extract p d.size))).size)).1, (scanR d m (p + 8 + ((d.extract p d.size).extract 8 (8 + headN (d.extract p d.size))).size)).2) := by rw [scanR, if_pos hF]
      have HSC : Hid (ys ++ (scanR d (m + 1) p).1 = (scanV d).1 ∧ (scanR d (m + 1) p).2 = (scanV d).2) := hsc
      have HSR : Hid (scanR d (m + 1) p = ((d.extract p d.size).extract 8 (8 + headN (d.extract p d.size)) :: (scanR d m (p + 8 + ((d.extract p d.size).extract 8 (8 + headN (d.extract p d.size))).size)).1, (scanR d m (p + 8 + ((d.extract p d.size).extract 8 (8 + headN (d.extract p d.size))).size)).2)) := hsr
      have HFI : Hid (∀ W, Calls Tryz.prog 59 #[.string (d.extract p d.size)] W fun e w' => e = .returned (.string ((d.extract p d.size).extract 8 (8 + headN (d.extract p d.size)))) ∧ Below W.heap.size W w') := hfi
      clear hfi hsc hsr hF
      obtain ⟨hl1, hl2, hl3⟩ := hl
      rw [hDz] at hl3
      generalize headN (d.extract p d.size) = N at *
      generalize (d.extract p d.size).extract 8 (8 + N) = q at *
      have hne : q.toList.isEmpty = false := str_some.2 (fun e => by rw [e, ByteArray.size_empty] at hl1; omega)
      have hsz := hbel.size
      go_wp2_with fail
      refine (HFI.out _).mono ?_
      rintro e w1 ⟨rfl, hb1⟩
      have HB1 : Hid (Below wr.heap.size wr w1) := hb1
      have hsz1 := hb1.size
      clear hb1
      go_wp2_with (at_builtin; refine wpList_append_lies _ rfl _ _ _ rfl w.heap.size 9 ti _ 1 16 Tryz.underlying31 HI.out hz0 hz1 hz2 rfl (by omega) (.slice av ys.length cv) ys.length (ys.map Value.string) rfl (by exact row_later (row_later hrow.out HB1.out) (bnew _ _)) ⟨w1.heap.size, 0, none⟩ 1 1 [.string q] rfl rfl (by exact World.news_of_block (heap_alloc_new _ _)) (by simp [Value.oneCell']) (by omega) (by simp [maxLen]; omega) (by omega) (by simp; omega) (w1.heap.size + 1) (by simp) ?_; intro g5 cap5 w5 hown5 hgrow5 hat5 hlt5)
      have hB5 : Below w.heap.size w w5 := (bto (bto hbel HB1.out) (bnew _ _)).grown hgrow5 (by simp; omega) (fun q hq => by
        rcases hrow.out.2 with ⟨he, _⟩ | ⟨g, cap, cur, he, hB, _⟩
        · rw [he] at hq; simp [Value.ownBlock] at hq
        · rw [he] at hq; simp [Value.ownBlock] at hq; omega)
      have hxs : ys.map Value.string ++ [Value.string q] = (ys ++ [q]).map Value.string := by simp
      have hle : (ys ++ [q]).length = ys.length + 1 := by simp
      rw [hxs, ← hle] at hown5
      have h1 := HSC.out.1
      have h2 := HSC.out.2
      rw [HSR.out] at h1 h2
      refine ⟨⟨m, p + 8 + q.size, ys ++ [q], some ⟨g5, 0, none⟩, cap5, by rw [hle]; omega, by rw [hle]; omega, by omega, ⟨by rw [← h1]; simp, h2⟩, by rw [hl1]; go_num, by rw [hle], hown5, hB5⟩, by simp [intOf]; omega⟩
    · rw [firstS_eq, if_neg hF] at hfi
      have hsr : scanR d (m + 1) p = ([], p) := by rw [scanR, if_neg hF]
      rw [hsr] at hsc
      have HFI : Hid (∀ W, Calls Tryz.prog 59 #[.string (d.extract p d.size)] W fun e w' => e = .returned (.string ByteArray.empty) ∧ Below W.heap.size W w') := hfi
      clear hfi hsr hF
      go_wp2_with fail
      refine (HFI.out _).mono ?_
      rintro e w1 ⟨rfl, hb1⟩
      have HB1 : Hid (Below w.heap.size w w1) := bto hbel hb1
      have HR1 : Hid (w1.ownsRow w.heap.size 9 1 (.slice av ys.length cv) ys.length (ys.map Value.string)) := row_later hrow.out hb1
      clear hb1
      go_wp2
      have e1 : ys = (scanV d).1 := by have := hsc.out.1; simpa using this
      have e2 : p = (scanV d).2 := hsc.out.2
      refine bodyPost_ret (v := .tuple #[.slice av ys.length cv, .int .i64 p]) (by simp [results, Tryz.results30, go_sem]) rfl ⟨av, cv, ?_, ?_, HB1.out⟩
      · rw [e1, e2]
      · rw [← e1]; exact strs_of_row HR1.out
end Go.Proofs.YtflfopienjjlbaaGreatDoor

namespace Go.Proofs.YtflfopienjjlbaaGreatDoor
open Go.RowKit

attribute [local go_sem] Oper.semAt_some

/-- The payloads from place p on, each with the place where its frame ends. -/
def scanP (d : ByteArray) : Nat → Nat → List (ByteArray × Nat)
  | 0, _ => []
  | n + 1, p => haveI := frD (d.extract p d.size); if FrameAt (d.extract p d.size) then
      let q := (d.extract p d.size).extract 8 (8 + headN (d.extract p d.size))
      (q, p + 8 + q.size) :: scanP d n (p + 8 + q.size) else []
def encP (x : ByteArray × Nat) : Array Value := #[.string x.1, .int .i64 (x.2 : Nat)]

/-- What a round keeps: block D and every table. -/
def KeepTab (D : Nat) (W W' : World) : Prop := ∀ b o, W.heap[b]? = some o → (b = D ∨ ∃ cur, o = .cells cur 133 (0, 0)) → W'.heap[b]? = some o
theorem KeepTab.trans {D : Nat} {A B C : World} (h : KeepTab D A B) (k : KeepTab D B C) : KeepTab D A C := fun b o ho hb => k b o (h b o ho hb) hb
theorem grown_of_below {A B : World} (h : Below A.heap.size A B) : A.grownBy B none := ⟨h.os, h.tape, h.output, h.size, fun k hk _ => h.block k hk⟩
theorem abides_below {β : Type} {N : Nat} {J : β → World → Prop} (h : AbidesFrom N J) {s : β} {A B : World} (hs : J s A) (hb : Below A.heap.size A B) : J s B := h s A B none hs (grown_of_below hb) (fun _ e => by cases e)

set_option maxRecDepth 100000 in
set_option maxHeartbeats 1000000 in
theorem frames1_in (n l D B0 : Nat) (hn : 1 ≤ n) (d : ByteArray) (hd : d.size ≤ 1000000000) (J Jx : List (ByteArray × Nat) → World → Prop) (hJa : AbidesFrom B0 J)
    (hY : ∀ pre x W, J pre W → pre.length < (scanP d (d.size + 1) 0).length → YieldAt Fence.wide (n - 1) Tryz.prog l (encP x) W fun e W' =>
      (e = .returned (.bool true) ∧ J (pre ++ [x]) W' ∧ KeepTab D W W') ∨ (e = .returned (.bool false) ∧ Jx (pre ++ [x]) W'))
    (W : World) (hD : Blk W D #[.string d] 9) (h0 : J [] W) :
    CallsIn Fence.wide n Tryz.prog 74 #[.func (.yield l) #[] #[], .pointer (some ⟨D, 0, none⟩)] W fun e W' => (∃ v, e = .returned v) ∧
      ((∃ ys, ys = scanP d (d.size + 1) 0 ∧ J ys W') ∨ (∃ pre, True ∧ Jx pre W')) := by
  refine callsIn_of_wp Tryz.func74 rfl trivial ?_ rfl
  simp only [Tryz.ntmps74, List.size_toArray, List.length_cons, List.length_nil, Nat.reduceAdd, Nat.reduceSub, Array.replicate_succ, Array.replicate_zero, List.push_toArray, List.append_toArray, List.nil_append, List.cons_append]
  gi_wp2_with fail
  refine ⟨trivial, (callsIn_wide.2 (makeTab_any _)).mono ?_⟩
  rintro e w1 ⟨b, cur, rfl, hbl, hB, hcur, hb1⟩
  have HT : Hid (Blk w1 b cur 133 ∧ Blk w1 D #[.string d] 9 ∧ J [] w1) := ⟨hB, hD.later hb1, abides_below hJa h0 hb1⟩
  have HC : Hid (∀ i, i < 256 → cur[i]? = some (.int .u32 (crcT i : Nat))) := hcur
  clear hB hcur hb1 hbl
  gi_wp2
  gi_loopw [4, 5, 6] (fun c _ _ wr => ∃ (k p : Nat) (pre : List (ByteArray × Nat)), k + pre.length = d.size + 1 ∧ 9 * pre.length ≤ p ∧ p ≤ d.size ∧ c = .int .i64 p ∧ Hid (pre ++ scanP d k p = scanP d (d.size + 1) 0) ∧ Hid (Blk wr b cur 133 ∧ Blk wr D #[.string d] 9 ∧ J pre wr)) (fun c _ _ _ => d.size - (intOf c).toNat)
  case atStart => exact ⟨d.size + 1, 0, [], by simp, by simp, Nat.zero_le _, rfl, rfl, HT⟩
  case round =>
    obtain ⟨k, p, pre, hk, hy, hp, rfl, hsc, hw⟩ := hrel
    obtain ⟨m, rfl⟩ : ∃ m, k = m + 1 := ⟨k - 1, by omega⟩
    have hDz := extract_all d p hp
    have hcd : wr.cell? ⟨D, 0, none⟩ = some (.string d) := by rw [hw.out.2.1.cell]; rfl
    have hpi : (p : Int) ≤ (d.size : Int) := by omega
    have HPA : Hid (∀ x, Blk x b cur 133 → Calls Tryz.prog 75 #[.string (d.extract p d.size), .pointer (some ⟨b, 0, none⟩)] x fun e w' => (∃ q, e = .returned (.tuple #[.string q, .bool (frB (d.extract p d.size))]) ∧ (FrameAt (d.extract p d.size) → q = (d.extract p d.size).extract 8 (8 + headN (d.extract p d.size)))) ∧ Below x.heap.size x w') :=
      fun x hx => implPay_any _ b cur x (by rw [hDz]; unfold maxLen; omega) hx HC.out
    by_cases hF : FrameAt (d.extract p d.size)
    · have hl := frame_len hF
      have HSR : Hid (scanP d (m + 1) p = ((d.extract p d.size).extract 8 (8 + headN (d.extract p d.size)), p + 8 + ((d.extract p d.size).extract 8 (8 + headN (d.extract p d.size))).size) :: scanP d m (p + 8 + ((d.extract p d.size).extract 8 (8 + headN (d.extract p d.size))).size)) := by show _ = _; rw [scanP, if_pos hF]
      rw [frB_t hF] at HPA
      have HPA2 : Hid (∀ x, Blk x b cur 133 → Calls Tryz.prog 75 #[.string (d.extract p d.size), .pointer (some ⟨b, 0, none⟩)] x fun e w' => e = .returned (.tuple #[.string ((d.extract p d.size).extract 8 (8 + headN (d.extract p d.size))), .bool true]) ∧ Below x.heap.size x w') :=
        fun x hx => (HPA.out x hx).mono (by rintro e w' ⟨⟨q, rfl, hq⟩, hb⟩; rw [hq hF]; exact ⟨rfl, hb⟩)
      clear HPA hF
      obtain ⟨hl1, hl2, hl3⟩ := hl
      rw [hDz] at hl3
      generalize headN (d.extract p d.size) = N at *
      generalize (d.extract p d.size).extract 8 (8 + N) = q at *
      gi_wp2_with fail
      refine ⟨trivial, (callsIn_wide.2 (HPA2.out _ hw.out.1)).mono ?_⟩
      rintro e w2 ⟨rfl, hb2⟩
      have HW2 : Hid (Blk w2 b cur 133 ∧ Blk w2 D #[.string d] 9 ∧ J pre w2) := ⟨hw.out.1.later hb2, hw.out.2.1.later hb2, abides_below hJa hw.out.2.2 hb2⟩
      clear hb2
      have hpre : pre.length < (scanP d (d.size + 1) 0).length := by
        rw [← hsc.out, HSR.out]; simp
      obtain ⟨fn, tmps, assign, body, hy2, hR⟩ := hY pre (q, p + 8 + q.size) w2 HW2.out.2.2 hpre
      simp only [encP] at hy2
      have e2 : ((p + 8 + q.size : Nat) : Int) = (p : Int) + (8 + (N : Int)) := by rw [hl1]; omega
      rw [e2] at hy2
      gi_wp2
      refine hR.mono ?_
      rintro e W3 (⟨rfl, hJ3, hk3⟩ | ⟨rfl, hJx3⟩)
      · have HK : Hid (Blk W3 b cur 133 ∧ Blk W3 D #[.string d] 9 ∧ J (pre ++ [(q, p + 8 + q.size)]) W3) := ⟨hk3 b _ HW2.out.1 (Or.inr ⟨_, rfl⟩), hk3 D _ HW2.out.2.1 (Or.inl rfl), hJ3⟩
        clear hJ3 hk3
        gi_wp2
        go_roundw
        case rel =>
          refine ⟨m, p + 8 + q.size, pre ++ [(q, p + 8 + q.size)], by simp; omega, by simp; omega, by omega, by rw [e2], ?_, HK⟩
          show _ = _
          rw [← hsc.out, HSR.out]
          simp
        case measure => simp [intOf]; omega
      · gi_wp2
        refine bodyPost_ret (results_none rfl _ _ _) rfl ?_
        exact ⟨⟨_, rfl⟩, .inr ⟨_, trivial, hJx3⟩⟩
    · have HSR : Hid (scanP d (m + 1) p = []) := by show _ = _; rw [scanP, if_neg hF]
      rw [frB_f hF] at HPA
      clear hF
      gi_wp2_with fail
      refine ⟨trivial, (callsIn_wide.2 (HPA.out _ hw.out.1)).mono ?_⟩
      rintro e w2 ⟨⟨q, rfl, _⟩, hb2⟩
      have HJ2 : Hid (J pre w2) := abides_below hJa hw.out.2.2 hb2
      clear hb2
      gi_wp2
      refine bodyPost_ret (results_none rfl _ _ _) rfl ?_
      refine ⟨⟨_, rfl⟩, .inl ⟨pre, ?_, HJ2.out⟩⟩
      rw [← hsc.out, HSR.out]
      simp

set_option maxHeartbeats 1000000 in
theorem frames_in (n : Nat) (d : ByteArray) (w : World) :
    CallsIn Fence.wide n Tryz.prog 47 #[.string d] w fun e w' => e = .returned (.func (.func 74) #[] #[.pointer (some ⟨w.heap.size, 0, none⟩)]) ∧ w' = w.alloc (.cells #[.string d] 9) := by
  refine callsIn_of_wp Tryz.func47 rfl trivial ?_ rfl
  simp only [Tryz.ntmps47, List.size_toArray, List.length_cons, List.length_nil, Nat.reduceAdd, Nat.reduceSub, Array.replicate_succ, Array.replicate_zero, List.push_toArray, List.append_toArray, List.nil_append, List.cons_append]
  gi_wp2
  go_ret
  exact ⟨rfl, rfl⟩

theorem frames_stops (n D : Nat) (hn : 1 ≤ n) (d : ByteArray) (hd : d.size ≤ 1000000000) (w : World) (hD : Blk w D #[.string d] 9) :
    SeqStopsK Fence.wide n Tryz.prog 74 #[.pointer (some ⟨D, 0, none⟩)] encP (KeepTab D) (fun ys => ys = scanP d (d.size + 1) 0) (fun _ => True) (scanP d (d.size + 1) 0).length w := fun l J Jx W hW hJ _ hY h0 =>
  frames1_in n l D W.heap.size hn d hd J Jx hJ hY W (hD.later hW) h0
end Go.Proofs.YtflfopienjjlbaaGreatDoor

