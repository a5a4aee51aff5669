import Derived.Test.YtmggmbidihjblaaDoorProg
import Derived.Test.YtmggmbidihjblaaDoorPcL
import Derived.Test.YtmggmbidihjblaaDoorStrN
namespace Go.Proofs.YtmggmbidihjblaaDoor
open Go.RowKit

/-- A text of these bytes. -/
def baL (l : List UInt8) : ByteArray := ⟨l.toArray⟩
theorem baL_size (l : List UInt8) : (baL l).size = l.length := by simp [baL, ByteArray.size]
theorem baL_list (l : List UInt8) : (baL l).data.toList = l := by simp [baL]
theorem baL_back (s : ByteArray) : baL s.data.toList = s := by cases s; simp [baL]
theorem ext_is (s : ByteArray) (p k : Nat) : s.extract p k = baL ((s.data.toList.take k).drop p) := by
  unfold baL
  apply ByteArray.ext
  apply Array.ext'
  rw [ByteArray.data_extract, Array.toList_extract, List.extract_eq_take_drop, List.drop_take]
theorem ext_end (s : ByteArray) (p : Nat) : s.extract p s.size = baL (s.data.toList.drop p) := by
  rw [ext_is, List.take_of_length_le (by rw [Array.length_toList]; exact Nat.le_refl _)]
theorem drop_split {l : List UInt8} {p k : Nat} (hp : p ≤ k) (hk : k < l.length) : l.drop p = (l.take k).drop p ++ l[k] :: l.drop (k + 1) := by
  have h1 : l.drop p = (l.take k ++ l.drop k).drop p := by rw [List.take_append_drop]
  rw [h1, List.drop_append_of_le_length (by rw [List.length_take]; omega), List.drop_eq_getElem_cons hk]
theorem piece_no {l : List UInt8} {a : UInt8} {p k : Nat} (hp : p ≤ k) (hk : k < l.length) (h : a ∉ (l.take k).drop p) (hc : ¬ l[k] = a) : a ∉ (l.take (k + 1)).drop p := by
  rw [List.take_add_one, List.getElem?_eq_getElem hk, Option.toList_some, List.drop_append_of_le_length (by rw [List.length_take]; omega)]
  intro e
  rcases List.mem_append.1 e with e | e
  · exact h e
  · exact hc (List.mem_singleton.1 e).symm
theorem split_yes {l : List UInt8} {a : UInt8} {p k : Nat} (hp : p ≤ k) (hk : k < l.length) (h : a ∉ (l.take k).drop p) (hc : l[k] = a) : splA a (l.drop p) = (l.take k).drop p :: splA a (l.drop (k + 1)) := by
  rw [drop_split hp hk, hc]
  exact splA_app h

theorem row_cap {w : World} {B e g n cap : Nat} {xs : List Value} (h : w.ownsRow B e 1 (.slice (some ⟨g, 0, none⟩) n cap) n xs) : n ≤ cap := by
  rcases h.2 with ⟨h1, _⟩ | ⟨g', cap', cur, he, _, _, hc, _⟩
  · cases h1
  · simp only [Value.slice.injEq] at he
    rw [he.2.2]
    exact hc

set_option maxRecDepth 100000 in
set_option maxHeartbeats 1000000 in
theorem specSplit_any (s : ByteArray) (c : UInt8) (w : World) (hs : s.size ≤ 1048576) :
    Calls Tryd.prog 7 #[.string s, .int .u8 (c.toNat : Int)] w fun e w' => ∃ a cap, e = .returned (.slice a ((splA c s.data.toList).map baL).length cap) ∧ ((splA c s.data.toList).map baL).length ≤ cap ∧ StrsOwn w' w.heap.size a ((splA c s.data.toList).map baL) ∧ Below w.heap.size w w' := by
  obtain ⟨ti, hti, hz0, hz1, hz2⟩ := info_str
  have HI : Hid (Tryd.prog.info? 9 = some ti) := hti
  have hc256 : c.toNat < 256 := c.toNat_lt
  clear hti
  go_enter Tryd.func7, Tryd.ntmps7
  go_wp2
  go_loopw [5, 6, 7] (fun parts fr i wr => ∃ (k p : Nat) (ys : List (List UInt8)) (av : Option Addr) (cv : Nat), p ≤ k ∧ k ≤ s.size ∧ ys.length ≤ k ∧ Hid (c ∉ (s.data.toList.take k).drop p ∧ ys ++ splA c (s.data.toList.drop p) = splA c s.data.toList) ∧ fr = .int .i64 p ∧ i = .int .i64 k ∧ parts = .slice av ys.length cv ∧ Hid (wr.ownsRow w.heap.size 9 1 (.slice av ys.length cv) ys.length ((ys.map baL).map Value.string)) ∧ Below w.heap.size w wr) (fun _ _ i _ => s.size - (intOf i).toNat)
  case atStart =>
    exact ⟨0, 0, [], _, _, Nat.le_refl _, Nat.zero_le _, Nat.zero_le _, ⟨by simp, by simp⟩, rfl, rfl, rfl, World.ownsRow_made w #[] 0 (Nat.le_refl _) (by simp [maxLen]) (by simp), bnew _ _⟩
  case round =>
    obtain ⟨k, p, ys, av, cv, hp, hk, hy, HY, rfl, rfl, rfl, hrow, hbel⟩ := hrel
    have hsz := hbel.size
    by_cases hlt : k < s.size
    · have hU : s[k].toNat < 256 := s[k].toNat_lt
      have hlen : k < s.data.toList.length := by rw [Array.length_toList]; exact hlt
      have HE : Hid (s.data.toList[k] = s[k]) := by show _ = _; rw [Array.getElem_toList]; rfl
      by_cases hc : s[k] = c
      · have HQ : Hid (splA c (s.data.toList.drop p) = (s.data.toList.take k).drop p :: splA c (s.data.toList.drop (k + 1))) := split_yes hp hlen HY.out.1 (HE.out.trans hc)
        have hcn : (s[k].toNat : Int) = (c.toNat : Int) := by rw [hc]
        have hes : (s.extract p k).size ≤ 1048576 := by rw [ByteArray.size_extract]; omega
        have HX : Hid (s.extract p k = baL ((s.data.toList.take k).drop p)) := ext_is s p k
        clear hc
        go_wp2_with (at_builtin; refine wpList_append_lies _ rfl _ _ _ rfl w.heap.size 9 ti _ 1 16 Tryd.underlying28 HI.out hz0 hz1 hz2 rfl (by omega) (.slice av ys.length cv) ys.length ((ys.map baL).map Value.string) rfl (by exact row_later hrow.out (bnew _ _)) ⟨wr.heap.size, 0, none⟩ 1 1 [.string (s.extract p k)] rfl rfl (by exact World.news_of_block (heap_alloc_new _ _)) (by simp [Value.oneCell']) (by omega) (by simp [maxLen]; omega) (by omega) (by simp; omega) (wr.heap.size + 1) (by simp) ?_; intro g5 cap5 w5 hown5 hgrow5 hat5 hlt5)
        have hB5 : Below w.heap.size w w5 := (bto hbel (bnew _ _)).grown hgrow5 (by simp; omega) (fun q hq => by
          rcases hrow.out.2 with ⟨he, _⟩ | ⟨g, cap, cur, he, hB, _⟩
          · rw [he] at hq; simp [Value.ownBlock] at hq
          · rw [he] at hq; simp [Value.ownBlock] at hq; omega)
        have hxs : (ys.map baL).map Value.string ++ [Value.string (s.extract p k)] = ((ys ++ [(s.data.toList.take k).drop p]).map baL).map Value.string := by rw [HX.out]; simp
        have hle : (ys ++ [(s.data.toList.take k).drop p]).length = ys.length + 1 := by simp
        rw [hxs, ← hle] at hown5
        exact ⟨⟨k + 1, k + 1, ys ++ [(s.data.toList.take k).drop p], some ⟨g5, 0, none⟩, cap5, Nat.le_refl _, by omega, by rw [hle]; omega, ⟨by rw [List.drop_of_length_le (by rw [List.length_take]; omega)]; simp, by rw [← HY.out.2, HQ.out]; simp⟩, by go_num, by go_num, by rw [hle], hown5, hB5⟩, by simp [intOf]; omega⟩
      · have HN : Hid (c ∉ (s.data.toList.take (k + 1)).drop p) := piece_no hp hlen HY.out.1 (by rw [HE.out]; exact hc)
        have hcn : ¬ (s[k].toNat : Int) = (c.toNat : Int) := fun e => hc (UInt8.toNat_inj.1 (by omega))
        clear hc
        go_wp2
        exact ⟨⟨k + 1, p, ys, av, cv, by omega, by omega, by omega, ⟨HN.out, HY.out.2⟩, rfl, by go_num, rfl, hrow.out, hbel⟩, by simp [intOf]; omega⟩
    · obtain rfl : k = s.size := by omega
      have HX : Hid (s.extract p s.size = baL (s.data.toList.drop p)) := ext_end s p
      have hes : (s.extract p s.size).size ≤ 1048576 := by rw [ByteArray.size_extract]; omega
      have HQ : Hid (splA c (s.data.toList.drop p) = [s.data.toList.drop p]) := splA_none (by have := HY.out.1; rwa [List.take_of_length_le (by rw [Array.length_toList]; exact Nat.le_refl _)] at this)
      go_wp2_with (at_builtin; refine wpList_append_lies _ rfl _ _ _ rfl w.heap.size 9 ti _ 1 16 Tryd.underlying28 HI.out hz0 hz1 hz2 rfl (by omega) (.slice av ys.length cv) ys.length ((ys.map baL).map Value.string) rfl (by exact row_later hrow.out (bnew _ _)) ⟨wr.heap.size, 0, none⟩ 1 1 [.string (s.extract p s.size)] rfl rfl (by exact World.news_of_block (heap_alloc_new _ _)) (by simp [Value.oneCell']) (by omega) (by simp [maxLen]; omega) (by omega) (by simp; omega) (wr.heap.size + 1) (by simp) ?_; intro g5 cap5 w5 hown5 hgrow5 hat5 hlt5)
      have hB5 : Below w.heap.size w w5 := (bto hbel (bnew _ _)).grown hgrow5 (by simp; omega) (fun q hq => by
        rcases hrow.out.2 with ⟨he, _⟩ | ⟨g, cap, cur, he, hB, _⟩
        · rw [he] at hq; simp [Value.ownBlock] at hq
        · rw [he] at hq; simp [Value.ownBlock] at hq; omega)
      have hxs : (ys.map baL).map Value.string ++ [Value.string (s.extract p s.size)] = ((splA c s.data.toList).map baL).map Value.string := by rw [HX.out, ← HY.out.2, HQ.out]; simp
      have hle : ((splA c s.data.toList).map baL).length = ys.length + 1 := by rw [← HY.out.2, HQ.out]; simp
      rw [hxs, ← hle] at hown5
      go_ret
      exact ⟨some ⟨g5, 0, none⟩, cap5, by rw [hle]; first | rfl | (congr 2), row_cap hown5, strs_of_row hown5, hB5⟩
end Go.Proofs.YtmggmbidihjblaaDoor
