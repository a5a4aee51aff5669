import Derived.Test.YtflfopienjjlbaaGreatDoorProg
import Derived.Test.YtflfopienjjlbaaGreatDoorJ07Strs
import Derived.RangeFuncBox
import Derived.RangeFuncLeaves
import Derived.Shelf.Abstract
import Derived.WalkKit
import Derived.OwnWalkIn
import Derived.TacticsInMore
import Derived.LoopNIn
import Derived.LoopIn
import Derived.Maps.AppendAt
import Derived.Test.YtflfopienjjlbaaGreatDoorJ03Nm
import Derived.Test.YtflfopienjjlbaaGreatDoorJ04Clone
import Derived.Deep.AppendLies
namespace Go.Proofs.YtflfopienjjlbaaGreatDoor
open Go.RowKit

theorem extract_all (d : ByteArray) (p : Nat) (h : p ≤ d.size) : (d.extract p d.size).size = d.size - p := by rw [ByteArray.size_extract]; omega
theorem frame_len {d : ByteArray} (h : FrameAt d) : (d.extract 8 (8 + headN d)).size = headN d ∧ 1 ≤ headN d ∧ 8 + headN d ≤ d.size := by
  obtain ⟨h8, h1, _, h3, _⟩ := h
  exact ⟨part_size (by omega), h1, by omega⟩

set_option maxRecDepth 100000 in
set_option maxHeartbeats 1000000 in
theorem specScan_any (d : ByteArray) (w : World) (hs : d.size ≤ 1000000000) :
    Calls Tryz.prog 30 #[.string d] w fun e w' => ∃ a cap, e = .returned (.tuple #[.slice a (scanV d).1.length cap, .int .i64 ((scanV d).2 : Nat)]) ∧ StrsOwn w' w.heap.size a (scanV d).1 ∧ Below w.heap.size w w' := by
  have hml : d.size ≤ maxLen := by unfold maxLen; omega
  obtain ⟨ti, hti, hz0, hz1, hz2⟩ := info_str
  have HI : Hid (Tryz.prog.info? 9 = some ti) := hti
  clear hti
  go_enter Tryz.func30, Tryz.ntmps30
  go_wp2
  go_loopw [4, 5, 6] (fun out at_ _ wr => ∃ (n p : Nat) (ys : List ByteArray) (av : Option Addr) (cv : Nat), n + ys.length = d.size + 1 ∧ 9 * ys.length ≤ p ∧ p ≤ d.size ∧ Hid (ys ++ (scanR d n p).1 = (scanV d).1 ∧ (scanR d n p).2 = (scanV d).2) ∧ at_ = .int .i64 p ∧ out = .slice av ys.length cv ∧ Hid (wr.ownsRow w.heap.size 9 1 (.slice av ys.length cv) ys.length (ys.map Value.string)) ∧ Below w.heap.size w wr) (fun _ at_ _ _ => d.size - (intOf at_).toNat)
  case atStart =>
    exact ⟨d.size + 1, 0, [], _, _, by simp, by simp, Nat.zero_le _, ⟨rfl, rfl⟩, rfl, rfl, World.ownsRow_made w #[] 0 (Nat.le_refl _) (by simp [maxLen]) (by simp), bnew _ _⟩
  case round =>
    obtain ⟨n, p, ys, av, cv, hn, hy, hp, hsc, rfl, rfl, hrow, hbel⟩ := hrel
    obtain ⟨m, rfl⟩ : ∃ m, n = m + 1 := ⟨n - 1, by omega⟩
    have hDz := extract_all d p hp
    have hfi : ∀ W, Calls Tryz.prog 59 #[.string (d.extract p d.size)] W fun e w' => e = .returned (.string (firstS (d.extract p d.size))) ∧ Below W.heap.size W w' := fun W => specFirst_any _ W (by rw [hDz]; omega)
    by_cases hF : FrameAt (d.extract p d.size)
    · have hl := frame_len hF
      rw [firstS_eq, if_pos hF] at hfi
      have hsr : scanR d (m + 1) p = ((d.extract p d.size).extract 8 (8 + headN (d.extract p d.size)) :: (scanR d m (p + 8 + ((d.extract p d.size).extract 8 (8 + headN (d.extract p d.size))).size)).1, (scanR d m (p + 8 + ((d.extract p d.size).extract 8 (8 + headN (d.extract p d.size))).size)).2) := by rw [scanR, if_pos hF]
      have HSC : Hid (ys ++ (scanR d (m + 1) p).1 = (scanV d).1 ∧ (scanR d (m + 1) p).2 = (scanV d).2) := hsc
      have HSR : Hid (scanR d (m + 1) p = ((d.extract p d.size).extract 8 (8 + headN (d.extract p d.size)) :: (scanR d m (p + 8 + ((d.extract p d.size).extract 8 (8 + headN (d.extract p d.size))).size)).1, (scanR d m (p + 8 + ((d.extract p d.size).extract 8 (8 + headN (d.extract p d.size))).size)).2)) := hsr
      have HFI : Hid (∀ W, Calls Tryz.prog 59 #[.string (d.extract p d.size)] W fun e w' => e = .returned (.string ((d.extract p d.size).extract 8 (8 + headN (d.extract p d.size)))) ∧ Below W.heap.size W w') := hfi
      clear hfi hsc hsr hF
      obtain ⟨hl1, hl2, hl3⟩ := hl
      rw [hDz] at hl3
      generalize headN (d.extract p d.size) = N at *
      generalize (d.extract p d.size).extract 8 (8 + N) = q at *
      have hne : q.toList.isEmpty = false := str_some.2 (fun e => by rw [e, ByteArray.size_empty] at hl1; omega)
      have hsz := hbel.size
      go_wp2_with fail
      refine (HFI.out _).mono ?_
      rintro e w1 ⟨rfl, hb1⟩
      have HB1 : Hid (Below wr.heap.size wr w1) := hb1
      have hsz1 := hb1.size
      clear hb1
      go_wp2_with (at_builtin; refine wpList_append_lies _ rfl _ _ _ rfl w.heap.size 9 ti _ 1 16 Tryz.underlying31 HI.out hz0 hz1 hz2 rfl (by omega) (.slice av ys.length cv) ys.length (ys.map Value.string) rfl (by exact row_later (row_later hrow.out HB1.out) (bnew _ _)) ⟨w1.heap.size, 0, none⟩ 1 1 [.string q] rfl rfl (by exact World.news_of_block (heap_alloc_new _ _)) (by simp [Value.oneCell']) (by omega) (by simp [maxLen]; omega) (by omega) (by simp; omega) (w1.heap.size + 1) (by simp) ?_; intro g5 cap5 w5 hown5 hgrow5 hat5 hlt5)
      have hB5 : Below w.heap.size w w5 := (bto (bto hbel HB1.out) (bnew _ _)).grown hgrow5 (by simp; omega) (fun q hq => by
        rcases hrow.out.2 with ⟨he, _⟩ | ⟨g, cap, cur, he, hB, _⟩
        · rw [he] at hq; simp [Value.ownBlock] at hq
        · rw [he] at hq; simp [Value.ownBlock] at hq; omega)
      have hxs : ys.map Value.string ++ [Value.string q] = (ys ++ [q]).map Value.string := by simp
      have hle : (ys ++ [q]).length = ys.length + 1 := by simp
      rw [hxs, ← hle] at hown5
      have h1 := HSC.out.1
      have h2 := HSC.out.2
      rw [HSR.out] at h1 h2
      refine ⟨⟨m, p + 8 + q.size, ys ++ [q], some ⟨g5, 0, none⟩, cap5, by rw [hle]; omega, by rw [hle]; omega, by omega, ⟨by rw [← h1]; simp, h2⟩, by rw [hl1]; go_num, by rw [hle], hown5, hB5⟩, by simp [intOf]; omega⟩
    · rw [firstS_eq, if_neg hF] at hfi
      have hsr : scanR d (m + 1) p = ([], p) := by rw [scanR, if_neg hF]
      rw [hsr] at hsc
      have HFI : Hid (∀ W, Calls Tryz.prog 59 #[.string (d.extract p d.size)] W fun e w' => e = .returned (.string ByteArray.empty) ∧ Below W.heap.size W w') := hfi
      clear hfi hsr hF
      go_wp2_with fail
      refine (HFI.out _).mono ?_
      rintro e w1 ⟨rfl, hb1⟩
      have HB1 : Hid (Below w.heap.size w w1) := bto hbel hb1
      have HR1 : Hid (w1.ownsRow w.heap.size 9 1 (.slice av ys.length cv) ys.length (ys.map Value.string)) := row_later hrow.out hb1
      clear hb1
      go_wp2
      have e1 : ys = (scanV d).1 := by have := hsc.out.1; simpa using this
      have e2 : p = (scanV d).2 := hsc.out.2
      refine bodyPost_ret (v := .tuple #[.slice av ys.length cv, .int .i64 p]) (by simp [results, Tryz.results30, go_sem]) rfl ⟨av, cv, ?_, ?_, HB1.out⟩
      · rw [e1, e2]
      · rw [← e1]; exact strs_of_row HR1.out
end Go.Proofs.YtflfopienjjlbaaGreatDoor

namespace Go.Proofs.YtflfopienjjlbaaGreatDoor
open Go.RowKit

attribute [local go_sem] Oper.semAt_some

/-- The payloads from place p on, each with the place where its frame ends. -/
def scanP (d : ByteArray) : Nat → Nat → List (ByteArray × Nat)
  | 0, _ => []
  | n + 1, p => haveI := frD (d.extract p d.size); if FrameAt (d.extract p d.size) then
      let q := (d.extract p d.size).extract 8 (8 + headN (d.extract p d.size))
      (q, p + 8 + q.size) :: scanP d n (p + 8 + q.size) else []
def encP (x : ByteArray × Nat) : Array Value := #[.string x.1, .int .i64 (x.2 : Nat)]

/-- What a round keeps: block D and every table. -/
def KeepTab (D : Nat) (W W' : World) : Prop := ∀ b o, W.heap[b]? = some o → (b = D ∨ ∃ cur, o = .cells cur 133 (0, 0)) → W'.heap[b]? = some o
theorem KeepTab.trans {D : Nat} {A B C : World} (h : KeepTab D A B) (k : KeepTab D B C) : KeepTab D A C := fun b o ho hb => k b o (h b o ho hb) hb
theorem grown_of_below {A B : World} (h : Below A.heap.size A B) : A.grownBy B none := ⟨h.os, h.tape, h.output, h.size, fun k hk _ => h.block k hk⟩
theorem abides_below {β : Type} {N : Nat} {J : β → World → Prop} (h : AbidesFrom N J) {s : β} {A B : World} (hs : J s A) (hb : Below A.heap.size A B) : J s B := h s A B none hs (grown_of_below hb) (fun _ e => by cases e)

set_option maxRecDepth 100000 in
set_option maxHeartbeats 1000000 in
theorem frames1_in (n l D B0 : Nat) (hn : 1 ≤ n) (d : ByteArray) (hd : d.size ≤ 1000000000) (J Jx : List (ByteArray × Nat) → World → Prop) (hJa : AbidesFrom B0 J)
    (hY : ∀ pre x W, J pre W → pre.length < (scanP d (d.size + 1) 0).length → YieldAt Fence.wide (n - 1) Tryz.prog l (encP x) W fun e W' =>
      (e = .returned (.bool true) ∧ J (pre ++ [x]) W' ∧ KeepTab D W W') ∨ (e = .returned (.bool false) ∧ Jx (pre ++ [x]) W'))
    (W : World) (hD : Blk W D #[.string d] 9) (h0 : J [] W) :
    CallsIn Fence.wide n Tryz.prog 74 #[.func (.yield l) #[] #[], .pointer (some ⟨D, 0, none⟩)] W fun e W' => (∃ v, e = .returned v) ∧
      ((∃ ys, ys = scanP d (d.size + 1) 0 ∧ J ys W') ∨ (∃ pre, True ∧ Jx pre W')) := by
  refine callsIn_of_wp Tryz.func74 rfl trivial ?_ rfl
  simp only [Tryz.ntmps74, List.size_toArray, List.length_cons, List.length_nil, Nat.reduceAdd, Nat.reduceSub, Array.replicate_succ, Array.replicate_zero, List.push_toArray, List.append_toArray, List.nil_append, List.cons_append]
  gi_wp2_with fail
  refine ⟨trivial, (callsIn_wide.2 (makeTab_any _)).mono ?_⟩
  rintro e w1 ⟨b, cur, rfl, hbl, hB, hcur, hb1⟩
  have HT : Hid (Blk w1 b cur 133 ∧ Blk w1 D #[.string d] 9 ∧ J [] w1) := ⟨hB, hD.later hb1, abides_below hJa h0 hb1⟩
  have HC : Hid (∀ i, i < 256 → cur[i]? = some (.int .u32 (crcT i : Nat))) := hcur
  clear hB hcur hb1 hbl
  gi_wp2
  gi_loopw [4, 5, 6] (fun c _ _ wr => ∃ (k p : Nat) (pre : List (ByteArray × Nat)), k + pre.length = d.size + 1 ∧ 9 * pre.length ≤ p ∧ p ≤ d.size ∧ c = .int .i64 p ∧ Hid (pre ++ scanP d k p = scanP d (d.size + 1) 0) ∧ Hid (Blk wr b cur 133 ∧ Blk wr D #[.string d] 9 ∧ J pre wr)) (fun c _ _ _ => d.size - (intOf c).toNat)
  case atStart => exact ⟨d.size + 1, 0, [], by simp, by simp, Nat.zero_le _, rfl, rfl, HT⟩
  case round =>
    obtain ⟨k, p, pre, hk, hy, hp, rfl, hsc, hw⟩ := hrel
    obtain ⟨m, rfl⟩ : ∃ m, k = m + 1 := ⟨k - 1, by omega⟩
    have hDz := extract_all d p hp
    have hcd : wr.cell? ⟨D, 0, none⟩ = some (.string d) := by rw [hw.out.2.1.cell]; rfl
    have hpi : (p : Int) ≤ (d.size : Int) := by omega
    have HPA : Hid (∀ x, Blk x b cur 133 → Calls Tryz.prog 75 #[.string (d.extract p d.size), .pointer (some ⟨b, 0, none⟩)] x fun e w' => (∃ q, e = .returned (.tuple #[.string q, .bool (frB (d.extract p d.size))]) ∧ (FrameAt (d.extract p d.size) → q = (d.extract p d.size).extract 8 (8 + headN (d.extract p d.size)))) ∧ Below x.heap.size x w') :=
      fun x hx => implPay_any _ b cur x (by rw [hDz]; unfold maxLen; omega) hx HC.out
    by_cases hF : FrameAt (d.extract p d.size)
    · have hl := frame_len hF
      have HSR : Hid (scanP d (m + 1) p = ((d.extract p d.size).extract 8 (8 + headN (d.extract p d.size)), p + 8 + ((d.extract p d.size).extract 8 (8 + headN (d.extract p d.size))).size) :: scanP d m (p + 8 + ((d.extract p d.size).extract 8 (8 + headN (d.extract p d.size))).size)) := by show _ = _; rw [scanP, if_pos hF]
      rw [frB_t hF] at HPA
      have HPA2 : Hid (∀ x, Blk x b cur 133 → Calls Tryz.prog 75 #[.string (d.extract p d.size), .pointer (some ⟨b, 0, none⟩)] x fun e w' => e = .returned (.tuple #[.string ((d.extract p d.size).extract 8 (8 + headN (d.extract p d.size))), .bool true]) ∧ Below x.heap.size x w') :=
        fun x hx => (HPA.out x hx).mono (by rintro e w' ⟨⟨q, rfl, hq⟩, hb⟩; rw [hq hF]; exact ⟨rfl, hb⟩)
      clear HPA hF
      obtain ⟨hl1, hl2, hl3⟩ := hl
      rw [hDz] at hl3
      generalize headN (d.extract p d.size) = N at *
      generalize (d.extract p d.size).extract 8 (8 + N) = q at *
      gi_wp2_with fail
      refine ⟨trivial, (callsIn_wide.2 (HPA2.out _ hw.out.1)).mono ?_⟩
      rintro e w2 ⟨rfl, hb2⟩
      have HW2 : Hid (Blk w2 b cur 133 ∧ Blk w2 D #[.string d] 9 ∧ J pre w2) := ⟨hw.out.1.later hb2, hw.out.2.1.later hb2, abides_below hJa hw.out.2.2 hb2⟩
      clear hb2
      have hpre : pre.length < (scanP d (d.size + 1) 0).length := by
        rw [← hsc.out, HSR.out]; simp
      obtain ⟨fn, tmps, assign, body, hy2, hR⟩ := hY pre (q, p + 8 + q.size) w2 HW2.out.2.2 hpre
      simp only [encP] at hy2
      have e2 : ((p + 8 + q.size : Nat) : Int) = (p : Int) + (8 + (N : Int)) := by rw [hl1]; omega
      rw [e2] at hy2
      gi_wp2
      refine hR.mono ?_
      rintro e W3 (⟨rfl, hJ3, hk3⟩ | ⟨rfl, hJx3⟩)
      · have HK : Hid (Blk W3 b cur 133 ∧ Blk W3 D #[.string d] 9 ∧ J (pre ++ [(q, p + 8 + q.size)]) W3) := ⟨hk3 b _ HW2.out.1 (Or.inr ⟨_, rfl⟩), hk3 D _ HW2.out.2.1 (Or.inl rfl), hJ3⟩
        clear hJ3 hk3
        gi_wp2
        go_roundw
        case rel =>
          refine ⟨m, p + 8 + q.size, pre ++ [(q, p + 8 + q.size)], by simp; omega, by simp; omega, by omega, by rw [e2], ?_, HK⟩
          show _ = _
          rw [← hsc.out, HSR.out]
          simp
        case measure => simp [intOf]; omega
      · gi_wp2
        refine bodyPost_ret (results_none rfl _ _ _) rfl ?_
        exact ⟨⟨_, rfl⟩, .inr ⟨_, trivial, hJx3⟩⟩
    · have HSR : Hid (scanP d (m + 1) p = []) := by show _ = _; rw [scanP, if_neg hF]
      rw [frB_f hF] at HPA
      clear hF
      gi_wp2_with fail
      refine ⟨trivial, (callsIn_wide.2 (HPA.out _ hw.out.1)).mono ?_⟩
      rintro e w2 ⟨⟨q, rfl, _⟩, hb2⟩
      have HJ2 : Hid (J pre w2) := abides_below hJa hw.out.2.2 hb2
      clear hb2
      gi_wp2
      refine bodyPost_ret (results_none rfl _ _ _) rfl ?_
      refine ⟨⟨_, rfl⟩, .inl ⟨pre, ?_, HJ2.out⟩⟩
      rw [← hsc.out, HSR.out]
      simp

set_option maxHeartbeats 1000000 in
theorem frames_in (n : Nat) (d : ByteArray) (w : World) :
    CallsIn Fence.wide n Tryz.prog 47 #[.string d] w fun e w' => e = .returned (.func (.func 74) #[] #[.pointer (some ⟨w.heap.size, 0, none⟩)]) ∧ w' = w.alloc (.cells #[.string d] 9) := by
  refine callsIn_of_wp Tryz.func47 rfl trivial ?_ rfl
  simp only [Tryz.ntmps47, List.size_toArray, List.length_cons, List.length_nil, Nat.reduceAdd, Nat.reduceSub, Array.replicate_succ, Array.replicate_zero, List.push_toArray, List.append_toArray, List.nil_append, List.cons_append]
  gi_wp2
  go_ret
  exact ⟨rfl, rfl⟩

theorem frames_stops (n D : Nat) (hn : 1 ≤ n) (d : ByteArray) (hd : d.size ≤ 1000000000) (w : World) (hD : Blk w D #[.string d] 9) :
    SeqStopsK Fence.wide n Tryz.prog 74 #[.pointer (some ⟨D, 0, none⟩)] encP (KeepTab D) (fun ys => ys = scanP d (d.size + 1) 0) (fun _ => True) (scanP d (d.size + 1) 0).length w := fun l J Jx W hW hJ _ hY h0 =>
  frames1_in n l D W.heap.size hn d hd J Jx hJ hY W (hD.later hW) h0
end Go.Proofs.YtflfopienjjlbaaGreatDoor

namespace Go.Proofs.YtflfopienjjlbaaGreatDoor
open Go.RowKit

attribute [local go_sem] Oper.semAt_some

theorem ownsRow_drew {W : World} {n : Nat} {e : TypeId} {z k : Nat} {v : Value} {xs : List Value} (h : W.ownsRow n e z v k xs) : W.drew.ownsRow n e z v k xs := h
theorem hid_of {p : Prop} (h : p) : Hid p := h
/-- Where the last of them ends. -/
def endP (xs : List (ByteArray × Nat)) : Nat := (xs.getLast?.map (·.2)).getD 0
theorem endP_snoc (xs : List (ByteArray × Nat)) (x : ByteArray × Nat) : endP (xs ++ [x]) = x.2 := by simp [endP]
def strP (xs : List (ByteArray × Nat)) : List ByteArray := xs.map (·.1)
theorem scanP_1 (d : ByteArray) : ∀ n p, strP (scanP d n p) = (scanR d n p).1
  | 0, _ => rfl
  | n + 1, p => by
    rw [scanP, scanR]
    split
    · simp only [strP, List.map_cons]
      congr 1
      exact scanP_1 d n _
    · rfl
theorem scanP_2 (d : ByteArray) : ∀ n p, ((scanP d n p).getLast?.map (·.2)).getD p = (scanR d n p).2
  | 0, _ => rfl
  | n + 1, p => by
    rw [scanP, scanR]
    split
    · rw [← scanP_2 d n]
      simp only [List.getLast?_cons]
      cases h : (scanP d n _).getLast? <;> simp
    · rfl
theorem scanP_len (d : ByteArray) : ∀ n p, p ≤ d.size → 9 * (scanP d n p).length ≤ d.size - p
  | 0, _, _ => by simp [scanP]
  | n + 1, p, hp => by
    rw [scanP]
    split
    · rename_i hF
      obtain ⟨h1, h2, h3⟩ := frame_len hF
      rw [extract_all d p hp] at h3
      have := scanP_len d n (p + 8 + ((d.extract p d.size).extract 8 (8 + headN (d.extract p d.size))).size) (by omega)
      simp only [List.length_cons]
      omega
    · simp

theorem KeepTab.below {D : Nat} {A B : World} (h : Below A.heap.size A B) : KeepTab D A B := fun b _ ho _ => (h.block b (Array.getElem?_eq_some_iff.1 ho).1).trans ho
theorem KeepTab.put {D : Nat} {w : World} (hDw : D < w.heap.size) (W : World) (l : Nat) (o o' : Obj) (hl : w.heap.size ≤ l) (h : W.heap[l]? = some o) (hc : o.isCells = false) (_ : o.isWalk = false) : KeepTab D W (W.putObj l o') := by
  intro b x hx hb
  have hne : b ≠ l := by
    rcases hb with rfl | ⟨cur, rfl⟩
    · omega
    · rintro rfl
      rw [hx] at h
      cases h
      cases hc
  exact ((grownBy_putObj' W l o').block b (Array.getElem?_eq_some_iff.1 hx).1 (by simpa using hne)).trans hx

theorem ownsRow_base {W : World} {n m : Nat} {e : TypeId} {z k : Nat} {v : Value} {xs : List Value} (h : W.ownsRow n e z v k xs) (hm : m ≤ n) : W.ownsRow m e z v k xs := by
  refine ⟨h.1, ?_⟩
  rcases h.2 with h' | ⟨g, cap, cur, h1, h2, h3⟩
  · exact Or.inl h'
  · exact Or.inr ⟨g, cap, cur, h1, Nat.le_trans hm h2, h3⟩
theorem KeepTab.grown {D n : Nat} {e : TypeId} {W W' : World} {v : Value} {k : Nat} {xs : List Value} (hrow : W.ownsRow n e 1 v k xs) (hg : W.grownBy W' v.ownBlock) (hD : D < n) (he : e ≠ 133) : KeepTab D W W' := by
  intro b o ho hb
  refine (hg.block b (Array.getElem?_eq_some_iff.1 ho).1 fun e' => ?_).trans ho
  rcases hrow.2 with ⟨rfl, _⟩ | ⟨g, cap, cur, rfl, h1, h2, _⟩
  · simp [Value.ownBlock] at e'
  · obtain rfl : b = g := by simpa [Value.ownBlock] using e'
    rcases hb with rfl | ⟨cur', rfl⟩
    · omega
    · rw [h2] at ho
      simp at ho
      exact he ho.2
theorem KeepTab.setBox {D B : Nat} {t : TypeId} {W : World} {v : Value} (hv : Boxed W B t v) (hD : D ≠ B) (ht : t ≠ 133) (v' : Value) : KeepTab D W (W.setCell ⟨B, 0, none⟩ v') := by
  intro b o ho hb
  refine (Below.heap_setCell _ _ _ b (fun e' => ?_)).trans ho
  have e2 : b = B := e'
  subst e2
  rcases hb with rfl | ⟨cur', rfl⟩
  · exact hD rfl
  · rw [show W.heap[b]? = _ from hv] at ho
    simp at ho
    exact ht ho.2
theorem boxOther {W : World} {B C : Nat} {t : TypeId} {v : Value} (h : Boxed W B t v) (hne : B ≠ C) (v' : Value) : Boxed (W.setCell ⟨C, 0, none⟩ v') B t v := (Below.heap_setCell _ _ _ B (fun e => hne e)).trans h
theorem boxed_from {β : Type} (N B : Nat) (t : TypeId) (f : β → Value) : OwnFrom N (fun s W => Boxed W B t (f s)) := fun s A C row hs hg hr => hs.kept hg (fun e => by
  obtain ⟨_, o, ho, hc⟩ := hr B e.symm
  rw [show A.heap[B]? = _ from hs] at ho
  cases ho
  cases hc)

theorem frames_inF (F : Fence) (n : Nat) (HF : Hid (F = Fence.wide)) (d : ByteArray) (w : World) :
    CallsIn F n Tryz.prog 47 #[.string d] w fun e w' => e = .returned (.func (.func 74) #[] #[.pointer (some ⟨w.heap.size, 0, none⟩)]) ∧ w' = w.alloc (.cells #[.string d] 9) := by
  have e := HF.out
  subst e
  exact frames_in n d w
theorem frames_stopsF (F : Fence) (n : Nat) (HF : Hid (F = Fence.wide)) (D : Nat) (hn : 1 ≤ n) (d : ByteArray) (hd : d.size ≤ 1000000000) (w : World) (hD : Blk w D #[.string d] 9) :
    SeqStopsK F n Tryz.prog 74 #[.pointer (some ⟨D, 0, none⟩)] encP (KeepTab D) (fun ys => ys = scanP d (d.size + 1) 0) (fun _ => True) (scanP d (d.size + 1) 0).length w := by
  have e := HF.out
  subst e
  exact frames_stops n D hn d hd w hD

set_option maxRecDepth 100000 in
set_option maxHeartbeats 2000000 in
theorem implScan_in (F : Fence) (n : Nat) (HF : Hid (F = Fence.wide)) (h11 : F.fn 19) (h22 : F.fn 47) (h25 : F.fn 74) (hro : F.round = none) (hn : 3 ≤ n) (d : ByteArray) (w : World) (hs : d.size ≤ 1000000000) :
    CallsIn F n Tryz.prog 19 #[.string d] w fun e w' => ∃ a cap, e = .returned (.tuple #[.slice a (scanV d).1.length cap, .int .i64 ((scanV d).2 : Nat)]) ∧ StrsOwn w' w.heap.size a (scanV d).1 ∧ Below w.heap.size w w' := by
  obtain ⟨i0, hi, hz0, hz1, hz2⟩ := info_str
  have HI : Hid (Tryz.prog.info? 9 = some i0) := hi
  clear hi
  have hlen := scanP_len d (d.size + 1) 0 (Nat.zero_le _)
  have h1 : 1 ≤ n := by omega
  refine callsIn_of_wp_marks Tryz.func19 rfl h11 ?_ hro
  simp only [Tryz.ntmps19, List.size_toArray, List.length_cons, List.length_nil, Nat.reduceAdd, Nat.reduceSub, Array.replicate_succ, Array.replicate_zero, List.push_toArray, List.append_toArray, List.nil_append, List.cons_append]
  gi_wp2_with (gi_at_call 47; refine (frames_inF F (n - 1) HF d _).mono ?_; rintro e w' ⟨rfl, rfl⟩)
  have bO : Boxed (((w.alloc (.cells #[.slice none 0 0] 31)).alloc (.cells #[.int .i64 0] 3)).alloc (.cells #[.string d] 9)) w.heap.size 31 (.slice none 0 0) := ((Boxed.new w _ _).alloc _).alloc _
  have bS : Boxed (((w.alloc (.cells #[.slice none 0 0] 31)).alloc (.cells #[.int .i64 0] 3)).alloc (.cells #[.string d] 9)) (w.heap.size + 1) 3 (.int .i64 0) := by
    have h := (Boxed.new (w.alloc (.cells #[.slice none 0 0] 31)) 3 (.int .i64 0)).alloc (.cells #[.string d] 9)
    rwa [World.size_alloc] at h
  have bD : Blk (((w.alloc (.cells #[.slice none 0 0] 31)).alloc (.cells #[.int .i64 0] 3)).alloc (.cells #[.string d] 9)) (w.heap.size + 1 + 1) #[.string d] 9 := by
    have h := Boxed.new ((w.alloc (.cells #[.slice none 0 0] 31)).alloc (.cells #[.int .i64 0] 3)) 9 (.string d)
    rwa [World.size_alloc, World.size_alloc] at h
  have hB0 : Below w.heap.size w (((w.alloc (.cells #[.slice none 0 0] 31)).alloc (.cells #[.int .i64 0] 3)).alloc (.cells #[.string d] 9)) := (((Below.refl _ w).alloc (Nat.le_refl _) _).alloc (by simp) _).alloc (by simp; omega) _
  have hsz : (((w.alloc (.cells #[.slice none 0 0] 31)).alloc (.cells #[.int .i64 0] 3)).alloc (.cells #[.string d] 9)).heap.size = w.heap.size + 3 := by simp
  generalize (((w.alloc (.cells #[.slice none 0 0] 31)).alloc (.cells #[.int .i64 0] 3)).alloc (.cells #[.string d] 9)) = W0 at *
  refine wpIn_rangeFunc_ownF hro h1 (gf := 74) (lb := #[.pointer (some ⟨w.heap.size + 1 + 1, 0, none⟩)]) rfl h25 (enters_of Tryz.func74 (by kernel_rfl) rfl)
    (frames_stopsF F (n - 1) HF (w.heap.size + 1 + 1) (by omega) d hs W0 bD) KeepTab.trans (KeepTab.put (by omega)) (Below.refl _ _) (fun _ => rfl)
    (fun pre W => (∃ v, Boxed W w.heap.size 31 v ∧ W.ownsRow (w.heap.size + 3) 9 1 v pre.length ((strP pre).map Value.string) ∧ True) ∧ Boxed W (w.heap.size + 1) 3 (.int .i64 (endP pre : Nat)) ∧ Below w.heap.size w W ∧ w.heap.size + 3 ≤ W.heap.size)
    (fun _ _ _ => False)
    (OwnFrom.and (Own.from (holdsRow_own (w.heap.size + 3) w.heap.size 31 9 1 (fun pre => pre.length) (fun pre => (strP pre).map Value.string) (fun _ _ => True)) _) (OwnFrom.and (boxed_from _ _ _ _) (OwnFrom.and (ownFrom_below (Nat.le_refl _) (by omega)) (fun _ _ _ _ hs hg _ => Nat.le_trans hs hg.size))))
    (fun _ _ _ _ _ hs _ _ => hs)
    ⟨⟨_, bO, World.ownsRow_nil _ _ _ _, trivial⟩, bS, hB0, Nat.le_of_eq hsz.symm⟩
    (fun x => { tmps := #[.string d, undef, .slice none 0 0, .int .i64 0, .pointer (some ⟨w.heap.size, 0, none⟩), .pointer (some ⟨w.heap.size + 1, 0, none⟩), .string x.1, .int .i64 (x.2 : Nat), .string d, .func (.func 74) #[] #[.pointer (some ⟨w.heap.size + 1 + 1, 0, none⟩)], .string x.1, .int .i64 (x.2 : Nat), undef, undef, undef, undef, undef, undef, undef], defers := [] }) ?assign ?body ?done ?stop
  case assign =>
    intro l x W K hK
    simp only [encP]
    gi_wp2
    exact hK
  case body =>
    rintro l pre x W ⟨⟨v, hv, hrow, _⟩, hv2, hB, hWs⟩ hlt
    have hc := hv.cell
    have hM : pre.length < 1000000000 := by omega
    clear hlt hlen bO bS bD hB0 hsz HF h25 h22 h11
    have HV2 : Hid (Boxed W (w.heap.size + 1) 3 (.int .i64 (endP pre : Nat))) := hv2
    clear hv2
    gi_wp2_with (gi_at_builtin; refine wpListIn_append_own _ rfl _ _ 31 rfl (w.heap.size + 3) 9 i0 (.string ByteArray.empty) 1 16 Tryz.underlying31 HI.out hz0 hz1 hz2 rfl (by decide) _ _ _ rfl (hrow.alloc _) ⟨W.heap.size, 0, none⟩ 1 1 [.string x.1] rfl rfl (cell_one_new _ _ _) (by simp [Value.oneCell']) (by unfold maxLen; omega) (by omega) (by simp; omega) ?_; intro v' w1 hown' hgrow _; obtain ⟨g', cap', rfl⟩ := ownsRow_succ hown'; refine Hid.out ?_)
    have HAP := hv.appended (by decide) (ownsRow_base hrow (Nat.le_add_right w.heap.size 3)) hB.size (Nat.le_refl _) (ownsRow_base hown' (Nat.le_add_right w.heap.size 3)) hgrow
    have hW1 : Boxed w1 (w.heap.size + 1) 3 (.int .i64 (endP pre : Nat)) := (HV2.out.alloc _).kept hgrow (HV2.out.not_row (by decide) hrow)
    obtain ⟨hp1, hp2, hp3, hp4, hp5⟩ := HAP
    have hq2 := boxOther hW1 (by omega : w.heap.size + 1 ≠ w.heap.size) (.slice (some ⟨g', 0, none⟩) (pre.length + 1) cap')
    have hc1 := hp1.cell
    have hf1 := hp1.frozen
    have hc2 := hq2.cell
    have hf2 := hq2.frozen
    have HALL : Hid (KeepsOthers W (w1.setCell ⟨w.heap.size, 0, none⟩ (.slice (some ⟨g', 0, none⟩) (pre.length + 1) cap')) ∧ Below w.heap.size W (w1.setCell ⟨w.heap.size, 0, none⟩ (.slice (some ⟨g', 0, none⟩) (pre.length + 1) cap'))) := ⟨hp4, hp5⟩
    clear hp4 hp5
    refine hid_of ?_
    gi_wp2
    have hr1 := hown'.kept (grownBy_setCell' w1 w.heap.size (.slice (some ⟨g', 0, none⟩) (pre.length + 1) cap')) (.inr (hp1.not_row (by decide) hown').symm)
    have hr2 := hr1.kept (grownBy_setCell' _ (w.heap.size + 1) (.int .i64 (x.2 : Nat))) (.inr (Boxed.not_row hq2 (by decide) hr1).symm)
    have hk1 : KeepTab (w.heap.size + 1 + 1) W (W.alloc (.cells #[.string x.1] 9)) := KeepTab.below (bnew W _)
    have hk2 := hk1.trans (KeepTab.grown (hrow.alloc _) hgrow (by omega) (by decide))
    have hk3 := hk2.trans (KeepTab.setBox hp1 (by omega) (by decide) (.slice (some ⟨g', 0, none⟩) (pre.length + 1) cap'))
    have hk4 := hk3.trans (KeepTab.setBox hq2 (by omega) (by decide) (.int .i64 (x.2 : Nat)))
    have hb2 := HALL.out.2.setCell (p := ⟨w.heap.size + 1, 0, none⟩) (Nat.le_succ _) (.int .i64 (x.2 : Nat))
    refine ⟨HALL.out.1.trans (KeepsOthers.setCell _ _ _), hk4, ⟨_, boxOther hp2 (by omega) _, ?_, trivial⟩, ?_, hB.trans hb2, ?_⟩
    · have e1 : (strP (pre ++ [x])).map Value.string = (strP pre).map Value.string ++ [Value.string x.1] := by simp [strP]
      have e2 : (pre ++ [x]).length = pre.length + 1 := by simp
      rw [e1, e2]
      exact hr2
    · rw [endP_snoc]
      exact Boxed.set _ hq2
    · exact Nat.le_trans hWs hb2.size
  case done =>
    rintro D ys W hD rfl ⟨⟨v, hv, hrow, _⟩, hv2, hB, _⟩ hK
    have e1 : strP (scanP d (d.size + 1) 0) = (scanV d).1 := scanP_1 d _ 0
    have e2 : endP (scanP d (d.size + 1) 0) = (scanV d).2 := scanP_2 d _ 0
    have e3 : (scanP d (d.size + 1) 0).length = (scanV d).1.length := by rw [← e1]; simp [strP]
    rw [e1, e3] at hrow
    rw [e2] at hv2
    clear hlen e1 e2 e3 bO bS bD hB0 HF h25 h22 h11
    obtain ⟨L, HL⟩ : ∃ L, Hid ((scanV d).1 = L) := ⟨_, rfl⟩
    obtain ⟨z, HZ⟩ : ∃ z, Hid ((scanV d).2 = z) := ⟨_, rfl⟩
    rw [HL.out] at hrow
    rw [HZ.out] at hv2
    obtain ⟨a, cap, rfl⟩ : ∃ a cap, v = .slice a L.length cap := by
      rcases hrow.2 with ⟨rfl, h0⟩ | ⟨g, cap, cur, rfl, _⟩
      · exact ⟨none, 0, by rw [h0]⟩
      · exact ⟨_, _, rfl⟩
    have HO : Hid (W.ownsRow w.heap.size 9 1 (.slice a L.length cap) L.length (L.map Value.string)) := ownsRow_base hrow (Nat.le_add_right _ _)
    have hc := hv.cell
    have hc2 := hv2.cell
    clear hrow hv hv2
    gi_wp2
    gi_region
    all_goals gi_wp2
    all_goals refine ⟨by simp, .inl ⟨_, _, rfl, run_takeDeferred (show W.drew.heap[D]? = _ from hK), ?_⟩⟩
    all_goals refine ⟨.tuple #[.slice a L.length cap, .int .i64 (z : Nat)], by simp [results, Tryz.results19, go_sem], a, cap, by rw [HL.out, HZ.out], ?_, ?_⟩
    all_goals first
      | rw [HL.out]; exact strs_of_row (ownsRow_putObj (ownsRow_drew HO.out) _ (show W.drew.heap[D]? = _ from hK) rfl)
      | exact (hB.drew).trans (belowK_b (w := w) (Nat.le_refl _) W.drew D _ _ (by omega) (show W.drew.heap[D]? = _ from hK) rfl rfl)
  case stop =>
    rintro D c pre W _ _ h _
    exact h.elim

theorem implScan_any (d : ByteArray) (w : World) (hs : d.size ≤ 1000000000) :
    Calls Tryz.prog 19 #[.string d] w fun e w' => ∃ a cap, e = .returned (.tuple #[.slice a (scanV d).1.length cap, .int .i64 ((scanV d).2 : Nat)]) ∧ StrsOwn w' w.heap.size a (scanV d).1 ∧ Below w.heap.size w w' :=
  (callsIn_wide (n := 5)).1 (implScan_in Fence.wide 5 rfl trivial trivial trivial rfl (by omega) d w hs)
end Go.Proofs.YtflfopienjjlbaaGreatDoor

namespace Go.Proofs.YtflfopienjjlbaaGreatDoor
open Go.RowKit

/-- A slice's address holds these ints (nothing is asked where there are none). -/
def NumsIn (w : World) (a : Option Addr) (l : List Int) : Prop := l = [] ∨ ∃ b o, a = some ⟨b, o, none⟩ ∧ b < w.heap.size ∧ ∀ i (h : i < l.length), w.cell? ⟨b, o + i, none⟩ = some (.int .i64 l[i])
theorem NumsIn.later {w w' : World} {a : Option Addr} {l : List Int} (h : NumsIn w a l) (hb : Below w.heap.size w w') : NumsIn w' a l := by
  rcases h with h | ⟨b, o, rfl, hlt, h⟩
  · exact Or.inl h
  · exact Or.inr ⟨b, o, rfl, Nat.lt_of_lt_of_le hlt hb.size, fun i hi => by rw [← h i hi]; exact hb.cell hlt⟩
theorem NumsIn.at {w : World} {a : Option Addr} {l : List Int} (h : NumsIn w a l) {i : Nat} (hi : i < l.length) : ∃ b o, a = some ⟨b, o, none⟩ ∧ b < w.heap.size ∧ w.cell? ⟨b, o + i, none⟩ = some (.int .i64 l[i]) := by
  rcases h with rfl | ⟨b, o, rfl, hlt, h⟩
  · exact absurd hi (by simp)
  · exact ⟨b, o, rfl, hlt, h i hi⟩
theorem nums_of_row {w : World} {B : Nat} {e : TypeId} {a : Option Addr} {cap : Nat} {l : List Int} (h : w.ownsRow B e 1 (.slice a l.length cap) l.length (l.map (Value.int .i64))) : NumsIn w a l := by
  rcases h.2 with ⟨_, hl⟩ | ⟨g, cap', cur, he, hB, hg, _, _, hsz, htk⟩
  · exact Or.inl (List.length_eq_zero_iff.1 hl)
  · simp only [Value.slice.injEq] at he
    refine Or.inr ⟨g, 0, he.1, lt_of_block hg, fun i hi => ?_⟩
    rw [Nat.zero_add, cell_of_row w g i cur _ _ hg]
    have h2 : (cur.toList.take (l.length * 1))[i]? = (l.map (Value.int .i64))[i]? := by rw [htk]
    rw [List.getElem?_take_of_lt (by omega)] at h2
    rw [← Array.getElem?_toList, h2]
    simp [List.getElem?_eq_getElem hi]
theorem info_num : ∃ i, Tryz.prog.info? 3 = some i ∧ i.zero = some (.int .i64 0) ∧ i.size = 1 ∧ i.bytes = 8 := by
  have h : (Tryz.prog.info? 3).map (fun i => (i.zero, i.size, i.bytes)) = some (some (.int .i64 0), 1, 8) := by kernel_rfl
  obtain ⟨i, hi, hz⟩ := Option.map_eq_some_iff.1 h
  simp only [Prod.mk.injEq] at hz
  exact ⟨i, hi, hz.1, hz.2.1, hz.2.2⟩
end Go.Proofs.YtflfopienjjlbaaGreatDoor

namespace Go.Proofs.YtflfopienjjlbaaGreatDoor
open Go.RowKit

/-- The segments' numbers among these files, in their order. -/
def numsL (fs : List FileD) : List Int := (fs.filter fun f => decide (0 < segOf f.name)).map fun f => (segOf f.name : Int)
theorem numsL_take_yes {fs : List FileD} {k : Nat} (h : k < fs.length) (hp : 0 < segOf fs[k].name) : numsL (fs.take (k + 1)) = numsL (fs.take k) ++ [(segOf fs[k].name : Int)] := by
  unfold numsL
  rw [List.take_add_one, List.getElem?_eq_getElem h, Option.toList_some, List.filter_append, List.map_append]
  simp [hp]
theorem numsL_take_no {fs : List FileD} {k : Nat} (h : k < fs.length) (hp : ¬ 0 < segOf fs[k].name) : numsL (fs.take (k + 1)) = numsL (fs.take k) := by
  unfold numsL
  rw [List.take_add_one, List.getElem?_eq_getElem h, Option.toList_some, List.filter_append, List.map_append]
  simp [hp]
theorem numsL_length (fs : List FileD) : (numsL fs).length ≤ fs.length := by
  unfold numsL
  rw [List.length_map]
  exact List.length_filter_le _ _

set_option maxRecDepth 100000 in
set_option maxHeartbeats 1000000 in
theorem segs_any (P D : Nat) (a : Option Addr) (cap : Nat) (fs : List FileD) (w : World) (hP : w.cell? ⟨P, 0, none⟩ = some (.pointer (some ⟨D, 0, none⟩))) (hD : w.cell? ⟨D, 4, none⟩ = some (.slice a fs.length cap)) (hf : FilesIn w a fs)
    (hn : ∀ i (h : i < fs.length), fs[i].name.size ≤ 1000000000) (hlen : fs.length ≤ 1048576) (htab : PowTab w) (he : ErrTab w) :
    Calls Tryz.prog 65 #[.pointer (some ⟨P, 0, none⟩)] w fun e w' => ∃ a' cap', e = .returned (.slice a' (numsL fs).length cap') ∧ NumsIn w' a' (numsL fs) ∧ Below w.heap.size w w' := by
  obtain ⟨ti, hti, hz0, hz1, hz2⟩ := info_num
  have HI : Hid (Tryz.prog.info? 3 = some ti) := hti
  have HF : Hid (FilesIn w a fs) := hf
  have HN : Hid (∀ i (h : i < fs.length), fs[i].name.size ≤ 1000000000) := hn
  have HT : Hid (PowTab w ∧ ErrTab w) := ⟨htab, he⟩
  clear hti hf hn htab he
  go_enter Tryz.func65, Tryz.ntmps65
  go_wp2
  go_loopw [3, 16] (fun out i wr => ∃ (k : Nat) (ys : List Int) (av : Option Addr) (cv : Nat), k ≤ fs.length ∧ ys.length ≤ k ∧ Hid (ys = numsL (fs.take k)) ∧ i = .int .i64 k ∧ out = .slice av ys.length cv ∧ Hid (wr.ownsRow w.heap.size 3 1 (.slice av ys.length cv) ys.length (ys.map (Value.int .i64))) ∧ Below w.heap.size w wr) (fun _ i _ => fs.length - (intOf i).toNat)
  case atStart =>
    exact ⟨0, [], none, 0, Nat.zero_le _, Nat.zero_le _, rfl, rfl, rfl, ⟨rfl, Or.inl ⟨rfl, rfl⟩⟩, Below.refl _ _⟩
  case round =>
    obtain ⟨k, ys, av, cv, hk, hy, HY, rfl, rfl, hrow, hbel⟩ := hrel
    clear hP hD
    by_cases hlt : k < fs.length
    · obtain ⟨b, o, rfl, hb, c0, c1, c2⟩ := (HF.out.later hbel).at hlt
      have hs := HN.out k hlt
      have HYy : Hid (0 < segOf fs[k].name → ys ++ [(segOf fs[k].name : Int)] = numsL (fs.take (k + 1))) := fun h => by rw [numsL_take_yes hlt h, HY.out]
      have HYn : Hid (¬ 0 < segOf fs[k].name → ys = numsL (fs.take (k + 1))) := fun h => by rw [numsL_take_no hlt h, HY.out]
      generalize fs[k].name = nm at *
      generalize fs[k].data = dt at *
      generalize fs[k].synced = sy at *
      have hsz := hbel.size
      have HC : Hid (∀ o, Calls Tryz.prog 91 #[.string nm] (wr.alloc o) fun e w' => ∃ (n : Int) (b : Bool), e = .returned (.tuple #[.int .i64 n, .bool b]) ∧ b = decide (0 < segOf nm) ∧ (b = true → n = segOf nm) ∧ Below (wr.alloc o).heap.size (wr.alloc o) w') := fun o => implSegOf_any nm _ hs (HT.out.1.later (bto hbel (bnew _ _))) (HT.out.2.later (bto hbel (bnew _ _)))
      go_wp2_with fail
      refine (HC.out _).mono ?_
      rintro e w1 ⟨n, bb, rfl, hbb, hnn, hb1⟩
      have HB1 : Hid (Below wr.heap.size wr w1) := bto (bnew _ _) hb1
      have hsz1 : wr.heap.size ≤ w1.heap.size := HB1.out.size
      clear hb1 HC
      by_cases hp : 0 < segOf nm
      · have HP : Hid (n = (segOf nm : Int) ∧ 0 < segOf nm) := ⟨hnn (by rw [hbb]; exact decide_eq_true hp), hp⟩
        obtain rfl : bb = true := by rw [hbb]; exact decide_eq_true hp
        clear hbb hnn hp
        go_wp2_with (at_builtin; refine wpList_append_lies _ rfl _ _ _ rfl w.heap.size 3 ti _ 1 8 Tryz.underlying54 HI.out hz0 hz1 hz2 rfl (by omega) (.slice av ys.length cv) ys.length (ys.map (Value.int .i64)) rfl (by exact row_later (row_later hrow.out HB1.out) (bnew _ _)) ⟨w1.heap.size, 0, none⟩ 1 1 [.int .i64 n] rfl rfl (by exact World.news_of_block (heap_alloc_new _ _)) (by simp [Value.oneCell']) (by omega) (by simp [maxLen]; omega) (by omega) (by simp; omega) (w1.heap.size + 1) (by simp) ?_; intro g5 cap5 w5 hown5 hgrow5 hat5 hlt5)
        have hB5 : Below w.heap.size w w5 := (bto (bto hbel HB1.out) (bnew _ _)).grown hgrow5 (by simp; omega) (fun q hq => by
          rcases hrow.out.2 with ⟨he, _⟩ | ⟨g, cap, cur, he, hB, _⟩
          · rw [he] at hq; simp [Value.ownBlock] at hq
          · rw [he] at hq; simp [Value.ownBlock] at hq; omega)
        have hxs : ys.map (Value.int .i64) ++ [Value.int .i64 n] = (ys ++ [n]).map (Value.int .i64) := by simp
        have hle : (ys ++ [n]).length = ys.length + 1 := by simp
        rw [hxs, ← hle] at hown5
        exact ⟨⟨k + 1, ys ++ [n], some ⟨g5, 0, none⟩, cap5, by omega, by rw [hle]; omega, by show _ = _; rw [HP.out.1]; exact HYy.out HP.out.2, by go_num, by rw [hle], hown5, hB5⟩, by simp [intOf]; omega⟩
      · have HP : Hid (¬ 0 < segOf nm) := hp
        obtain rfl : bb = false := by rw [hbb]; exact decide_eq_false hp
        clear hbb hnn hp
        go_wp2
        exact ⟨⟨k + 1, ys, av, cv, by omega, by omega, HYn.out HP.out, by go_num, rfl, row_later hrow.out HB1.out, bto hbel HB1.out⟩, by simp [intOf]; omega⟩
    · go_wp2
      go_ret
      have e : k = fs.length := by omega
      subst e
      rw [List.take_length] at HY
      have hY := HY.out
      clear HY
      subst hY
      exact ⟨av, cv, rfl, nums_of_row hrow.out, hbel⟩
end Go.Proofs.YtflfopienjjlbaaGreatDoor

