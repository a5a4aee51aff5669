import Derived.RangeFuncBox
import Derived.RangeFuncLeaves
import Derived.Shelf.Abstract
import Derived.WalkKit
import Derived.OwnWalkIn
import Derived.TacticsInMore
import Derived.LoopNIn
import Derived.LoopIn
import Derived.Maps.AppendAt
import Derived.Test.YtgpgacncmoiefaaIPay
import Derived.Test.YtgpgacncmoiefaaSScan
namespace Go.Proofs.Ytgpgacncmoiefaa
open Go.RowKit

attribute [local go_sem] Oper.semAt_some

/-- The payloads from place p on, each with the place where its frame ends. -/
def scanP (d : ByteArray) : Nat → Nat → List (ByteArray × Nat)
  | 0, _ => []
  | n + 1, p => haveI := frD (d.extract p d.size); if FrameAt (d.extract p d.size) then
      let q := (d.extract p d.size).extract 8 (8 + headN (d.extract p d.size))
      (q, p + 8 + q.size) :: scanP d n (p + 8 + q.size) else []
def encP (x : ByteArray × Nat) : Array Value := #[.string x.1, .int .i64 (x.2 : Nat)]

/-- What a round keeps: block D and every table. -/
def KeepTab (D : Nat) (W W' : World) : Prop := ∀ b o, W.heap[b]? = some o → (b = D ∨ ∃ cur, o = .cells cur 98 (0, 0)) → W'.heap[b]? = some o
theorem KeepTab.trans {D : Nat} {A B C : World} (h : KeepTab D A B) (k : KeepTab D B C) : KeepTab D A C := fun b o ho hb => k b o (h b o ho hb) hb
theorem grown_of_below {A B : World} (h : Below A.heap.size A B) : A.grownBy B none := ⟨h.os, h.tape, h.output, h.size, fun k hk _ => h.block k hk⟩
theorem abides_below {β : Type} {N : Nat} {J : β → World → Prop} (h : AbidesFrom N J) {s : β} {A B : World} (hs : J s A) (hb : Below A.heap.size A B) : J s B := h s A B none hs (grown_of_below hb) (fun _ e => by cases e)

set_option maxRecDepth 100000 in
set_option maxHeartbeats 1000000 in
theorem frames1_in (n l D B0 : Nat) (hn : 1 ≤ n) (d : ByteArray) (hd : d.size ≤ 1000000000) (J Jx : List (ByteArray × Nat) → World → Prop) (hJa : AbidesFrom B0 J)
    (hY : ∀ pre x W, J pre W → pre.length < (scanP d (d.size + 1) 0).length → YieldAt Fence.wide (n - 1) Try.prog l (encP x) W fun e W' =>
      (e = .returned (.bool true) ∧ J (pre ++ [x]) W' ∧ KeepTab D W W') ∨ (e = .returned (.bool false) ∧ Jx (pre ++ [x]) W'))
    (W : World) (hD : Blk W D #[.string d] 9) (h0 : J [] W) :
    CallsIn Fence.wide n Try.prog 68 #[.func (.yield l) #[] #[], .pointer (some ⟨D, 0, none⟩)] W fun e W' => (∃ v, e = .returned v) ∧
      ((∃ ys, ys = scanP d (d.size + 1) 0 ∧ J ys W') ∨ (∃ pre, True ∧ Jx pre W')) := by
  refine callsIn_of_wp Try.func68 rfl trivial ?_ rfl
  simp only [Try.ntmps68, List.size_toArray, List.length_cons, List.length_nil, Nat.reduceAdd, Nat.reduceSub, Array.replicate_succ, Array.replicate_zero, List.push_toArray, List.append_toArray, List.nil_append, List.cons_append]
  gi_wp2_with fail
  refine ⟨trivial, (callsIn_wide.2 (makeTab_any _)).mono ?_⟩
  rintro e w1 ⟨b, cur, rfl, hbl, hB, hcur, hb1⟩
  have HT : Hid (Blk w1 b cur 98 ∧ Blk w1 D #[.string d] 9 ∧ J [] w1) := ⟨hB, hD.later hb1, abides_below hJa h0 hb1⟩
  have HC : Hid (∀ i, i < 256 → cur[i]? = some (.int .u32 (crcT i : Nat))) := hcur
  clear hB hcur hb1 hbl
  gi_wp2
  gi_loopw [4, 5, 6] (fun c _ _ wr => ∃ (k p : Nat) (pre : List (ByteArray × Nat)), k + pre.length = d.size + 1 ∧ 9 * pre.length ≤ p ∧ p ≤ d.size ∧ c = .int .i64 p ∧ Hid (pre ++ scanP d k p = scanP d (d.size + 1) 0) ∧ Hid (Blk wr b cur 98 ∧ Blk wr D #[.string d] 9 ∧ J pre wr)) (fun c _ _ _ => d.size - (intOf c).toNat)
  case atStart => exact ⟨d.size + 1, 0, [], by simp, by simp, Nat.zero_le _, rfl, rfl, HT⟩
  case round =>
    obtain ⟨k, p, pre, hk, hy, hp, rfl, hsc, hw⟩ := hrel
    obtain ⟨m, rfl⟩ : ∃ m, k = m + 1 := ⟨k - 1, by omega⟩
    have hDz := extract_all d p hp
    have hcd : wr.cell? ⟨D, 0, none⟩ = some (.string d) := by rw [hw.out.2.1.cell]; rfl
    have hpi : (p : Int) ≤ (d.size : Int) := by omega
    have HPA : Hid (∀ x, Blk x b cur 98 → Calls Try.prog 69 #[.string (d.extract p d.size), .pointer (some ⟨b, 0, none⟩)] x fun e w' => (∃ q, e = .returned (.tuple #[.string q, .bool (frB (d.extract p d.size))]) ∧ (FrameAt (d.extract p d.size) → q = (d.extract p d.size).extract 8 (8 + headN (d.extract p d.size)))) ∧ Below x.heap.size x w') :=
      fun x hx => implPay_any _ b cur x (by rw [hDz]; unfold maxLen; omega) hx HC.out
    by_cases hF : FrameAt (d.extract p d.size)
    · have hl := frame_len hF
      have HSR : Hid (scanP d (m + 1) p = ((d.extract p d.size).extract 8 (8 + headN (d.extract p d.size)), p + 8 + ((d.extract p d.size).extract 8 (8 + headN (d.extract p d.size))).size) :: scanP d m (p + 8 + ((d.extract p d.size).extract 8 (8 + headN (d.extract p d.size))).size)) := by show _ = _; rw [scanP, if_pos hF]
      rw [frB_t hF] at HPA
      have HPA2 : Hid (∀ x, Blk x b cur 98 → Calls Try.prog 69 #[.string (d.extract p d.size), .pointer (some ⟨b, 0, none⟩)] x fun e w' => e = .returned (.tuple #[.string ((d.extract p d.size).extract 8 (8 + headN (d.extract p d.size))), .bool true]) ∧ Below x.heap.size x w') :=
        fun x hx => (HPA.out x hx).mono (by rintro e w' ⟨⟨q, rfl, hq⟩, hb⟩; rw [hq hF]; exact ⟨rfl, hb⟩)
      clear HPA hF
      obtain ⟨hl1, hl2, hl3⟩ := hl
      rw [hDz] at hl3
      generalize headN (d.extract p d.size) = N at *
      generalize (d.extract p d.size).extract 8 (8 + N) = q at *
      gi_wp2_with fail
      refine ⟨trivial, (callsIn_wide.2 (HPA2.out _ hw.out.1)).mono ?_⟩
      rintro e w2 ⟨rfl, hb2⟩
      have HW2 : Hid (Blk w2 b cur 98 ∧ Blk w2 D #[.string d] 9 ∧ J pre w2) := ⟨hw.out.1.later hb2, hw.out.2.1.later hb2, abides_below hJa hw.out.2.2 hb2⟩
      clear hb2
      have hpre : pre.length < (scanP d (d.size + 1) 0).length := by
        rw [← hsc.out, HSR.out]; simp
      obtain ⟨fn, tmps, assign, body, hy2, hR⟩ := hY pre (q, p + 8 + q.size) w2 HW2.out.2.2 hpre
      simp only [encP] at hy2
      have e2 : ((p + 8 + q.size : Nat) : Int) = (p : Int) + (8 + (N : Int)) := by rw [hl1]; omega
      rw [e2] at hy2
      gi_wp2
      refine hR.mono ?_
      rintro e W3 (⟨rfl, hJ3, hk3⟩ | ⟨rfl, hJx3⟩)
      · have HK : Hid (Blk W3 b cur 98 ∧ Blk W3 D #[.string d] 9 ∧ J (pre ++ [(q, p + 8 + q.size)]) W3) := ⟨hk3 b _ HW2.out.1 (Or.inr ⟨_, rfl⟩), hk3 D _ HW2.out.2.1 (Or.inl rfl), hJ3⟩
        clear hJ3 hk3
        gi_wp2
        go_roundw
        case rel =>
          refine ⟨m, p + 8 + q.size, pre ++ [(q, p + 8 + q.size)], by simp; omega, by simp; omega, by omega, by rw [e2], ?_, HK⟩
          show _ = _
          rw [← hsc.out, HSR.out]
          simp
        case measure => simp [intOf]; omega
      · gi_wp2
        refine bodyPost_ret (results_none rfl _ _ _) rfl ?_
        exact ⟨⟨_, rfl⟩, .inr ⟨_, trivial, hJx3⟩⟩
    · have HSR : Hid (scanP d (m + 1) p = []) := by show _ = _; rw [scanP, if_neg hF]
      rw [frB_f hF] at HPA
      clear hF
      gi_wp2_with fail
      refine ⟨trivial, (callsIn_wide.2 (HPA.out _ hw.out.1)).mono ?_⟩
      rintro e w2 ⟨⟨q, rfl, _⟩, hb2⟩
      have HJ2 : Hid (J pre w2) := abides_below hJa hw.out.2.2 hb2
      clear hb2
      gi_wp2
      refine bodyPost_ret (results_none rfl _ _ _) rfl ?_
      refine ⟨⟨_, rfl⟩, .inl ⟨pre, ?_, HJ2.out⟩⟩
      rw [← hsc.out, HSR.out]
      simp

set_option maxHeartbeats 1000000 in
theorem frames_in (n : Nat) (d : ByteArray) (w : World) :
    CallsIn Fence.wide n Try.prog 39 #[.string d] w fun e w' => e = .returned (.func (.func 68) #[] #[.pointer (some ⟨w.heap.size, 0, none⟩)]) ∧ w' = w.alloc (.cells #[.string d] 9) := by
  refine callsIn_of_wp Try.func39 rfl trivial ?_ rfl
  simp only [Try.ntmps39, List.size_toArray, List.length_cons, List.length_nil, Nat.reduceAdd, Nat.reduceSub, Array.replicate_succ, Array.replicate_zero, List.push_toArray, List.append_toArray, List.nil_append, List.cons_append]
  gi_wp2
  go_ret
  exact ⟨rfl, rfl⟩

theorem frames_stops (n D : Nat) (hn : 1 ≤ n) (d : ByteArray) (hd : d.size ≤ 1000000000) (w : World) (hD : Blk w D #[.string d] 9) :
    SeqStopsK Fence.wide n Try.prog 68 #[.pointer (some ⟨D, 0, none⟩)] encP (KeepTab D) (fun ys => ys = scanP d (d.size + 1) 0) (fun _ => True) (scanP d (d.size + 1) 0).length w := fun l J Jx W hW hJ _ hY h0 =>
  frames1_in n l D W.heap.size hn d hd J Jx hJ hY W (hD.later hW) h0
end Go.Proofs.Ytgpgacncmoiefaa
