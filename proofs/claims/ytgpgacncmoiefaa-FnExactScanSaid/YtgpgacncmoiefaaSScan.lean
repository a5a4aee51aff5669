import Derived.Test.YtgpgacncmoiefaaProg
import Derived.Test.YtgpgacncmoiefaaSFirst
import Derived.Test.YtgpgacncmoiefaaStrs
namespace Go.Proofs.Ytgpgacncmoiefaa
open Go.RowKit

theorem extract_all (d : ByteArray) (p : Nat) (h : p ≤ d.size) : (d.extract p d.size).size = d.size - p := by rw [ByteArray.size_extract]; omega
theorem frame_len {d : ByteArray} (h : FrameAt d) : (d.extract 8 (8 + headN d)).size = headN d ∧ 1 ≤ headN d ∧ 8 + headN d ≤ d.size := by
  obtain ⟨h8, h1, _, h3, _⟩ := h
  exact ⟨part_size (by omega), h1, by omega⟩

set_option maxRecDepth 100000 in
set_option maxHeartbeats 1000000 in
theorem specScan_any (d : ByteArray) (w : World) (hs : d.size ≤ 1000000000) :
    Calls Try.prog 13 #[.string d] w fun e w' => ∃ a cap, e = .returned (.tuple #[.slice a (scanV d).1.length cap, .int .i64 ((scanV d).2 : Nat)]) ∧ StrsOwn w' w.heap.size a (scanV d).1 ∧ Below w.heap.size w w' := by
  have hml : d.size ≤ maxLen := by unfold maxLen; omega
  obtain ⟨ti, hti, hz0, hz1, hz2⟩ := info_str
  have HI : Hid (Try.prog.info? 9 = some ti) := hti
  clear hti
  go_enter Try.func13, Try.ntmps13
  go_wp2
  go_loopw [4, 5, 6] (fun out at_ _ wr => ∃ (n p : Nat) (ys : List ByteArray) (av : Option Addr) (cv : Nat), n + ys.length = d.size + 1 ∧ 9 * ys.length ≤ p ∧ p ≤ d.size ∧ Hid (ys ++ (scanR d n p).1 = (scanV d).1 ∧ (scanR d n p).2 = (scanV d).2) ∧ at_ = .int .i64 p ∧ out = .slice av ys.length cv ∧ Hid (wr.ownsRow w.heap.size 9 1 (.slice av ys.length cv) ys.length (ys.map Value.string)) ∧ Below w.heap.size w wr) (fun _ at_ _ _ => d.size - (intOf at_).toNat)
  case atStart =>
    exact ⟨d.size + 1, 0, [], _, _, by simp, by simp, Nat.zero_le _, ⟨rfl, rfl⟩, rfl, rfl, World.ownsRow_made w #[] 0 (Nat.le_refl _) (by simp [maxLen]) (by simp), bnew _ _⟩
  case round =>
    obtain ⟨n, p, ys, av, cv, hn, hy, hp, hsc, rfl, rfl, hrow, hbel⟩ := hrel
    obtain ⟨m, rfl⟩ : ∃ m, n = m + 1 := ⟨n - 1, by omega⟩
    have hDz := extract_all d p hp
    have hfi : ∀ W, Calls Try.prog 38 #[.string (d.extract p d.size)] W fun e w' => e = .returned (.string (firstS (d.extract p d.size))) ∧ Below W.heap.size W w' := fun W => specFirst_any _ W (by rw [hDz]; omega)
    by_cases hF : FrameAt (d.extract p d.size)
    · have hl := frame_len hF
      rw [firstS_eq, if_pos hF] at hfi
      have hsr : scanR d (m + 1) p = ((d.extract p d.size).extract 8 (8 + headN (d.extract p d.size)) :: (scanR d m (p + 8 + ((d.extract p d.size).extract 8 (8 + headN (d.extract p d.size))).size)).1, (scanR d m (p + 8 + ((d.extract p d.size).extract 8 (8 + headN (d.extract p d.size))).size)).2) := by rw [scanR, if_pos hF]
      have HSC : Hid (ys ++ (scanR d (m + 1) p).1 = (scanV d).1 ∧ (scanR d (m + 1) p).2 = (scanV d).2) := hsc
      have HSR : Hid (scanR d (m + 1) p = ((d.extract p d.size).extract 8 (8 + headN (d.extract p d.size)) :: (scanR d m (p + 8 + ((d.extract p d.size).extract 8 (8 + headN (d.extract p d.size))).size)).1, (scanR d m (p + 8 + ((d.extract p d.size).extract 8 (8 + headN (d.extract p d.size))).size)).2)) := hsr
      have HFI : Hid (∀ W, Calls Try.prog 38 #[.string (d.extract p d.size)] W fun e w' => e = .returned (.string ((d.extract p d.size).extract 8 (8 + headN (d.extract p d.size)))) ∧ Below W.heap.size W w') := hfi
      clear hfi hsc hsr hF
      obtain ⟨hl1, hl2, hl3⟩ := hl
      rw [hDz] at hl3
      generalize headN (d.extract p d.size) = N at *
      generalize (d.extract p d.size).extract 8 (8 + N) = q at *
      have hne : q.toList.isEmpty = false := str_some.2 (fun e => by rw [e, ByteArray.size_empty] at hl1; omega)
      have hsz := hbel.size
      go_wp2_with fail
      refine (HFI.out _).mono ?_
      rintro e w1 ⟨rfl, hb1⟩
      have HB1 : Hid (Below wr.heap.size wr w1) := hb1
      have hsz1 := hb1.size
      clear hb1
      go_wp2_with (at_builtin; refine wpList_append_lies _ rfl _ _ _ rfl w.heap.size 9 ti _ 1 16 Try.underlying25 HI.out hz0 hz1 hz2 rfl (by omega) (.slice av ys.length cv) ys.length (ys.map Value.string) rfl (by exact row_later (row_later hrow.out HB1.out) (bnew _ _)) ⟨w1.heap.size, 0, none⟩ 1 1 [.string q] rfl rfl (by exact World.news_of_block (heap_alloc_new _ _)) (by simp [Value.oneCell']) (by omega) (by simp [maxLen]; omega) (by omega) (by simp; omega) (w1.heap.size + 1) (by simp) ?_; intro g5 cap5 w5 hown5 hgrow5 hat5 hlt5)
      have hB5 : Below w.heap.size w w5 := (bto (bto hbel HB1.out) (bnew _ _)).grown hgrow5 (by simp; omega) (fun q hq => by
        rcases hrow.out.2 with ⟨he, _⟩ | ⟨g, cap, cur, he, hB, _⟩
        · rw [he] at hq; simp [Value.ownBlock] at hq
        · rw [he] at hq; simp [Value.ownBlock] at hq; omega)
      have hxs : ys.map Value.string ++ [Value.string q] = (ys ++ [q]).map Value.string := by simp
      have hle : (ys ++ [q]).length = ys.length + 1 := by simp
      rw [hxs, ← hle] at hown5
      have h1 := HSC.out.1
      have h2 := HSC.out.2
      rw [HSR.out] at h1 h2
      refine ⟨⟨m, p + 8 + q.size, ys ++ [q], some ⟨g5, 0, none⟩, cap5, by rw [hle]; omega, by rw [hle]; omega, by omega, ⟨by rw [← h1]; simp, h2⟩, by rw [hl1]; go_num, by rw [hle], hown5, hB5⟩, by simp [intOf]; omega⟩
    · rw [firstS_eq, if_neg hF] at hfi
      have hsr : scanR d (m + 1) p = ([], p) := by rw [scanR, if_neg hF]
      rw [hsr] at hsc
      have HFI : Hid (∀ W, Calls Try.prog 38 #[.string (d.extract p d.size)] W fun e w' => e = .returned (.string ByteArray.empty) ∧ Below W.heap.size W w') := hfi
      clear hfi hsr hF
      go_wp2_with fail
      refine (HFI.out _).mono ?_
      rintro e w1 ⟨rfl, hb1⟩
      have HB1 : Hid (Below w.heap.size w w1) := bto hbel hb1
      have HR1 : Hid (w1.ownsRow w.heap.size 9 1 (.slice av ys.length cv) ys.length (ys.map Value.string)) := row_later hrow.out hb1
      clear hb1
      go_wp2
      have e1 : ys = (scanV d).1 := by have := hsc.out.1; simpa using this
      have e2 : p = (scanV d).2 := hsc.out.2
      refine bodyPost_ret (v := .tuple #[.slice av ys.length cv, .int .i64 p]) (by simp [results, Try.results13, go_sem]) rfl ⟨av, cv, ?_, ?_, HB1.out⟩
      · rw [e1, e2]
      · rw [← e1]; exact strs_of_row HR1.out
end Go.Proofs.Ytgpgacncmoiefaa
