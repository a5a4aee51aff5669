import Derived.Test.YtoecnlhnfhongaaGreatDoorProg
import Derived.Test.YtoecnlhnfhongaaGreatDoorJ15IRd
import Derived.Test.YtoecnlhnfhongaaGreatDoorJ18ICan
import Derived.Test.YtoecnlhnfhongaaGreatDoorJ01RdL
namespace Go.Proofs.YtoecnlhnfhongaaGreatDoor
open Go.RowKit

theorem cnt_le (key : ByteArray) : cntR key ≤ 255 := by
  have := num_lt 1 ⟨key, false⟩
  unfold cntR
  omega

set_option maxRecDepth 100000 in
set_option maxHeartbeats 2000000 in
theorem labels_any (B : Nat) (key : ByteArray) (w : World) (hB : RB w B ⟨key, false⟩) (hs : key.size ≤ 1000000000) :
    Calls Tryz.prog 101 #[.pointer (some ⟨B, 0, none⟩)] w fun e w' => ∃ g cap, e = .returned (.slice (some ⟨g, 0, none⟩) (rdAll key).1.length cap) ∧ w'.ownsRow w.heap.size 97 2 (.slice (some ⟨g, 0, none⟩) (rdAll key).1.length cap) (rdAll key).1.length (flatL (rdAll key).1) ∧ RB w' B (rdAll key).2 ∧ But B w w' := by
  have HC : Hid (Calls Tryz.prog 52 #[.pointer (some ⟨B, 0, none⟩), .int .i64 1] w fun e w' => e = .returned (.int .i64 (cntR key : Nat)) ∧ RB w' B (numR 1 ⟨key, false⟩).2 ∧ But B w w') := number_any B ⟨key, false⟩ 1 w hB (by omega) hs
  have hBlt : B < w.heap.size := lt_of_block hB
  have hz : (numR 1 ⟨key, false⟩).2.rest.size ≤ 1000000000 := by
    have h2 := (take_le 1 ⟨key, false⟩).2.2
    have h3 : (numR 1 ⟨key, false⟩).2.rest.size ≤ key.size := h2
    omega
  have hcl := cnt_le key
  have HRA : Hid (rdAll key = rdK (numR 1 ⟨key, false⟩).2 (cntR key)) := by show _ = _; rw [rdAll]
  rw [HRA.out]
  clear HRA hB
  generalize (numR 1 ⟨key, false⟩).2 = r0 at *
  generalize cntR key = n at *
  obtain ⟨ti, hti, ht0, ht1, ht2⟩ := info_lab
  have HI : Hid (Tryz.prog.info? 97 = some ti) := hti
  have hmk : ∀ W : World, (Instr.makeSlice 81 (.int .i64 0) (.int .i64 (n : Nat))).run Tryz.prog W = .ok (.slice (some ⟨W.heap.size, 0, none⟩) 0 n) (W.alloc (.cells (madeCells #[.string ByteArray.empty, .string ByteArray.empty] (n * 2)) 97)) := fun W => by
    have hr := run_make (P := Tryz.prog) W 81 97 ti _ Tryz.underlying81 hti ht0 .i64 .i64 0 (n : Nat) (by omega) (by omega) (by rw [ht2]; omega) (by omega)
    simp only [Int.toNat_natCast, ht1] at hr
    exact hr
  clear hti
  go_enter Tryz.func101, Tryz.ntmps101
  go_wp2_with fail
  refine HC.out.mono ?_
  rintro e w1 ⟨rfl, hr1, hb1⟩
  have H1 : Hid (RB w1 B r0 ∧ But B w w1) := ⟨hr1, hb1⟩
  have hz1 := hb1.size
  clear hr1 hb1 HC
  go_wp2
  clear hmk
  go_loopw [4, 5, 11] (fun out _ i wr => ∃ (k : Nat) (ys : List LabD) (g cv : Nat), k ≤ n ∧ i = .int .i64 k ∧ ys.length ≤ k ∧ k ≤ ys.length ∧ out = .slice (some ⟨g, 0, none⟩) ys.length cv ∧ Hid (ys = (rdK r0 k).1) ∧ Hid (RB wr B (rdK r0 k).2) ∧ Hid (wr.ownsRow w.heap.size 97 2 (.slice (some ⟨g, 0, none⟩) ys.length cv) ys.length (flatL ys)) ∧ Hid (But B w wr)) (fun _ _ i _ => n - (intOf i).toNat)
  case atStart =>
    refine ⟨0, [], _, _, Nat.zero_le _, rfl, Nat.zero_le _, Nat.zero_le _, rfl, rfl, Blk.later H1.out.1 (bnew _ _), ⟨rfl, Or.inr ⟨w1.heap.size, n, _, rfl, hz1, heap_alloc_new _ _, Nat.zero_le _, by simp [maxLen]; omega, size_madeCells _ _, rfl⟩⟩, H1.out.2.alloc _⟩
  case round =>
    obtain ⟨k, ys, g, cv, hk, rfl, hyl, hyl2, rfl, HY, HRB, HROW, HBU⟩ := hrel
    by_cases hlt : k < n
    · have hrest : (rdK r0 k).2.rest.size ≤ 1000000000 := by have := (rd_big r0 k).1; omega
      have hrest2 : (textR 1 (rdK r0 k).2).2.rest.size ≤ 1000000000 := by have := (text_le 1 (rdK r0 k).2).2; omega
      have HT1 : Hid (∀ W, RB W B (rdK r0 k).2 → Calls Tryz.prog 67 #[.pointer (some ⟨B, 0, none⟩), .int .i64 1] W fun e w' => e = .returned (.string (textR 1 (rdK r0 k).2).1) ∧ RB w' B (textR 1 (rdK r0 k).2).2 ∧ But B W w') := fun W h => text_any B _ 1 W h (by omega) hrest
      have HT2 : Hid (∀ W, RB W B (textR 1 (rdK r0 k).2).2 → Calls Tryz.prog 67 #[.pointer (some ⟨B, 0, none⟩), .int .i64 2] W fun e w' => e = .returned (.string (textR 2 (textR 1 (rdK r0 k).2).2).1) ∧ RB w' B (textR 2 (textR 1 (rdK r0 k).2).2).2 ∧ But B W w') := fun W h => text_any B _ 2 W h (by omega) hrest2
      have HST : Hid (rdK r0 (k + 1) = (ys ++ [⟨(textR 1 (rdK r0 k).2).1, (textR 2 (textR 1 (rdK r0 k).2).2).1⟩], (textR 2 (textR 1 (rdK r0 k).2).2).2)) := by show _ = _; rw [rdK_succ, labR_eq, HY.out]
      clear hrest hrest2
      generalize textR 2 (textR 1 (rdK r0 k).2).2 = t2 at *
      generalize textR 1 (rdK r0 k).2 = t1 at *
      generalize t1.1 = nm at *
      generalize t2.1 = va at *
      go_wp2_with fail
      refine (HT1.out _ HRB.out).mono ?_
      rintro e w2 ⟨rfl, hr2, hb2⟩
      have H2 : Hid (RB w2 B t1.2 ∧ But B w w2 ∧ w2.ownsRow w.heap.size 97 2 (.slice (some ⟨g, 0, none⟩) ys.length cv) ys.length (flatL ys)) := ⟨hr2, HBU.out.trans hb2, row_but0 HROW.out hb2 hBlt⟩
      clear hr2 hb2 HT1 HRB HROW HBU
      go_wp2_with fail
      refine (HT2.out _ H2.out.1).mono ?_
      rintro e w3 ⟨rfl, hr3, hb3⟩
      have H3 : Hid (RB w3 B t2.2 ∧ But B w w3 ∧ w3.ownsRow w.heap.size 97 2 (.slice (some ⟨g, 0, none⟩) ys.length cv) ys.length (flatL ys)) := ⟨hr3, H2.out.2.1.trans hb3, row_but0 H2.out.2.2 hb3 hBlt⟩
      have hz3 : w.heap.size ≤ w3.heap.size := H3.out.2.1.size
      clear hr3 hb3 HT2 H2
      go_wp2_with (at_builtin; refine wpList_append_lies _ rfl _ _ _ rfl w.heap.size 97 ti _ 2 32 Tryz.underlying81 HI.out ht0 ht1 ht2 rfl (by omega) (.slice (some ⟨g, 0, none⟩) ys.length cv) ys.length (flatL ys) rfl (by exact row_later H3.out.2.2 (bnew _ _)) ⟨w3.heap.size, 0, none⟩ 1 1 [.string nm, .string va] rfl rfl (by exact World.news_of_block (cs := #[.string nm, .string va]) (heap_alloc_new _ _)) (by simp [Value.oneCell']) (by omega) (by simp [maxLen]; omega) (by omega) (by simp; omega) (w3.heap.size + 1) (by simp) ?_; intro g5 cap5 w5 hown5 hgrow5 hat5 hlt5)
      have hkeep : w5.heap[B]? = w3.heap[B]? := (hgrow5.block B (by simp; omega) (fun e => by have := row_from H3.out.2.2 B e.symm; omega)).trans ((bnew w3 _).block B (by omega))
      have hbut : But B w w5 := by
        have hB3 := H3.out.2.1
        refine ⟨hgrow5.os.trans hB3.os, hgrow5.tape.trans hB3.tape, hgrow5.output.trans hB3.output, ?_, fun q hq hne => ?_⟩
        · have := hgrow5.size; simp at this; omega
        · exact (hgrow5.block q (by simp; omega) (fun e => by have := row_from H3.out.2.2 q e.symm; omega)).trans (((bnew w3 _).block q (by omega)).trans (hB3.block q hq hne))
      have hle : (ys ++ [(⟨nm, va⟩ : LabD)]).length = ys.length + 1 := by simp
      have hxs : flatL ys ++ [.string nm, .string va] = flatL (ys ++ [⟨nm, va⟩]) := by rw [flatL_append]; rfl
      rw [hxs, ← hle] at hown5
      refine ⟨⟨k + 1, ys ++ [(⟨nm, va⟩ : LabD)], g5, cap5, by omega, by go_num, by omega, by omega, by rw [hle], by show _ = _; rw [HST.out], ?_, hown5, hbut⟩, by simp [intOf]; omega⟩
      show RB w5 B (rdK r0 (k + 1)).2
      rw [HST.out]
      exact hkeep.trans H3.out.1
    · have e : k = n := by omega
      subst e
      have hY := HY.out
      clear HY
      subst hY
      go_wp2
      go_ret
      exact ⟨g, cv, rfl, HROW.out, HRB.out, HBU.out⟩

set_option maxRecDepth 100000 in
set_option maxHeartbeats 1000000 in
theorem implDec_any (key : ByteArray) (w : World) (hs : key.size ≤ 1000000000) (hT : UTab w) :
    Calls Tryz.prog 95 #[.string key] w fun e w' => ∃ a cap, e = .returned (.tuple #[.slice a (decV key).1.length cap, .bool (decV key).2]) ∧ LabsOwn w' w.heap.size a (decV key).1 ∧ Below w.heap.size w w' := by
  have HL : Hid (∀ W B, RB W B ⟨key, false⟩ → Calls Tryz.prog 101 #[.pointer (some ⟨B, 0, none⟩)] W fun e w' => ∃ g cap, e = .returned (.slice (some ⟨g, 0, none⟩) (rdAll key).1.length cap) ∧ w'.ownsRow W.heap.size 97 2 (.slice (some ⟨g, 0, none⟩) (rdAll key).1.length cap) (rdAll key).1.length (flatL (rdAll key).1) ∧ RB w' B (rdAll key).2 ∧ But B W w') := fun W B h => labels_any B key W h hs
  have hbig : BigL (rdAll key).1 := fun i hi => by
    have := rdAll_big key i hi
    exact ⟨by omega, by omega⟩
  have hlen : (rdAll key).1.length ≤ 255 := by
    have h : (rdAll key).1.length = cntR key := by rw [rdAll]; exact rdK_length _ _
    have := cnt_le key
    omega
  have HW : Hid (∀ W B, RB W B (rdAll key).2 → Calls Tryz.prog 102 #[.pointer (some ⟨B, 0, none⟩)] W fun e w' => e = .returned (.bool (wholeB (rdAll key).2)) ∧ w' = W) := fun W B h => whole_any B _ W h
  have HC : Hid (∀ W a c, LabsIn W a (rdAll key).1 → UTab W → (rdAll key).1.length ≤ c → Calls Tryz.prog 103 #[.slice a (rdAll key).1.length c] W fun e w' => e = .returned (.bool (canB (rdAll key).1)) ∧ Below W.heap.size W w') := fun W a c h hU hc => isCan_any a c _ W h hbig (by omega) hc hU
  have HT : Hid (UTab w) := hT
  have HBX : Hid (RB (w.alloc (.cells #[.string key, .bool false] 49)) w.heap.size ⟨key, false⟩ ∧ Below w.heap.size w (w.alloc (.cells #[.string key, .bool false] 49))) := ⟨heap_alloc_new _ _, bnew _ _⟩
  have hbx : w.heap.size < (w.alloc (.cells #[.string key, .bool false] 49)).heap.size := by simp
  have HDV : Hid (decV key = if (wholeB (rdAll key).2 && canB (rdAll key).1) = true then ((rdAll key).1, true) else ([], false)) := by show _ = _; rw [decV]
  clear hT hbig
  generalize wholeB (rdAll key).2 = wb at *
  generalize canB (rdAll key).1 = cb at *
  generalize (rdAll key).1 = L at *
  generalize (rdAll key).2 = rr at *
  cases wb with
  | true =>
    cases cb with
    | true =>
      have E : Hid (decV key = (L, true)) := HDV.out
      rw [E.out]
      go_enter Tryz.func95, Tryz.ntmps95
      go_wp2_with fail
      refine (HL.out _ _ HBX.out.1).mono ?_
      rintro e w1 ⟨g, cap, rfl, ho1, hr1, hb1⟩
      obtain ⟨hcap, _, _, _⟩ := row_cells ho1
      have H1 : Hid (RB w1 w.heap.size rr ∧ LabsOwn w1 w.heap.size (some ⟨g, 0, none⟩) L ∧ Below w.heap.size w w1) := ⟨hr1, (labs_of_row ho1).mono (by omega), HBX.out.2.trans (hb1.below (Nat.le_refl _) (by omega))⟩
      clear ho1 hr1 hb1 HBX hbx
      go_wp2_with fail
      refine (HW.out _ _ H1.out.1).mono ?_
      rintro e w2 ⟨rfl, hw⟩
      replace hw := hw.symm
      subst hw
      go_wp2_with fail
      refine (HC.out _ _ _ H1.out.2.1.labs (HT.out.later H1.out.2.2) hcap).mono ?_
      rintro e w3 ⟨rfl, hb3⟩
      have H3 : Hid (LabsOwn w3 w.heap.size (some ⟨g, 0, none⟩) L ∧ Below w.heap.size w w3) := ⟨H1.out.2.1.later hb3, bto H1.out.2.2 hb3⟩
      clear hb3
      go_wp2
      refine bodyPost_ret (v := .tuple #[.slice (some ⟨g, 0, none⟩) L.length cap, .bool true]) (by simp [results, Tryz.results95, go_sem]) rfl ⟨_, _, rfl, H3.out⟩
    | false =>
      have E : Hid (decV key = ([], false)) := HDV.out
      rw [E.out]
      go_enter Tryz.func95, Tryz.ntmps95
      go_wp2_with fail
      refine (HL.out _ _ HBX.out.1).mono ?_
      rintro e w1 ⟨g, cap, rfl, ho1, hr1, hb1⟩
      obtain ⟨hcap, _, _, _⟩ := row_cells ho1
      have H1 : Hid (RB w1 w.heap.size rr ∧ LabsOwn w1 w.heap.size (some ⟨g, 0, none⟩) L ∧ Below w.heap.size w w1) := ⟨hr1, (labs_of_row ho1).mono (by omega), HBX.out.2.trans (hb1.below (Nat.le_refl _) (by omega))⟩
      clear ho1 hr1 hb1 HBX hbx
      go_wp2_with fail
      refine (HW.out _ _ H1.out.1).mono ?_
      rintro e w2 ⟨rfl, hw⟩
      replace hw := hw.symm
      subst hw
      go_wp2_with fail
      refine (HC.out _ _ _ H1.out.2.1.labs (HT.out.later H1.out.2.2) hcap).mono ?_
      rintro e w3 ⟨rfl, hb3⟩
      have H3 : Hid (Below w.heap.size w w3) := bto H1.out.2.2 hb3
      clear hb3
      go_wp2
      refine bodyPost_ret (v := .tuple #[.slice none 0 0, .bool false]) (by simp [results, Tryz.results95, go_sem]) rfl ⟨_, _, rfl, Or.inl rfl, H3.out⟩
  | false =>
    have E : Hid (decV key = ([], false)) := HDV.out
    rw [E.out]
    go_enter Tryz.func95, Tryz.ntmps95
    go_wp2_with fail
    refine (HL.out _ _ HBX.out.1).mono ?_
    rintro e w1 ⟨g, cap, rfl, ho1, hr1, hb1⟩
    have H1 : Hid (RB w1 w.heap.size rr ∧ Below w.heap.size w w1) := ⟨hr1, HBX.out.2.trans (hb1.below (Nat.le_refl _) (by omega))⟩
    clear ho1 hr1 hb1 HBX hbx
    go_wp2_with fail
    refine (HW.out _ _ H1.out.1).mono ?_
    rintro e w2 ⟨rfl, hw⟩
    replace hw := hw.symm
    subst hw
    go_wp2
    refine bodyPost_ret (v := .tuple #[.slice none 0 0, .bool false]) (by simp [results, Tryz.results95, go_sem]) rfl ⟨_, _, rfl, Or.inl rfl, H1.out.2⟩
end Go.Proofs.YtoecnlhnfhongaaGreatDoor

namespace Go.Proofs.YtoecnlhnfhongaaGreatDoor
open Go.RowKit

set_option maxHeartbeats 1000000 in
theorem specGet_any (s : ByteArray) (p n : Nat) (w : World) (hs : s.size ≤ maxLen) (h : p + n ≤ s.size) (hn : n ≤ 7) :
    Calls Tryz.prog 22 #[.string s, .int .i64 p, .int .i64 n] w fun e w' => e = .returned (.int .i64 (beL (sectL s p n) : Nat)) ∧ w' = w := by
  unfold maxLen at hs
  go_enter Tryz.func22, Tryz.ntmps22
  go_wp2
  go_loop [7, 8] (fun v i => ∃ (k V : Nat), k ≤ n ∧ i = .int .i64 k ∧ v = .int .i64 V ∧ Hid (V = beL (sectL s p k))) (fun _ i => n - (intOf i).toNat)
  case atStart => exact ⟨0, 0, Nat.zero_le _, rfl, rfl, rfl⟩
  case round =>
    obtain ⟨k, V, hk, rfl, rfl, hV⟩ := hrel
    have hlt64 : V < 72057594037927936 := by
      have h1 := beL_lt (sectL s p k)
      rw [sectL_length (by omega), ← hV.out] at h1
      have h2 : 256 ^ k ≤ 256 ^ 7 := Nat.pow_le_pow_right (by omega) (by omega)
      omega
    by_cases hlt : k < n
    · have hV7 : V * 256 + 255 < 9223372036854775807 := by
        have h1 := beL_lt (sectL s p k)
        rw [sectL_length (by omega), ← hV.out] at h1
        have h2 : 256 ^ k ≤ 256 ^ 6 := Nat.pow_le_pow_right (by omega) (by omega)
        omega
      have hi0 : (0 : Int) ≤ (p : Int) + (k : Int) := by omega
      have hi1 : (p : Int) + (k : Int) < (s.size : Int) := by omega
      have hi2 : p + k < s.size := by omega
      have hU := s[p + k].toNat_lt
      go_wp2
      exact ⟨⟨k + 1, V * 256 + s[p + k].toNat, by omega, by go_num, by go_num, by show _ = _; rw [sectL_snoc hi2, beL_snoc, hV.out]⟩, by simp [intOf]; omega⟩
    · go_wp2
      go_ret
      have e : k = n := by omega
      subst e
      exact ⟨ret_int (by rw [hV.out]), rfl⟩
end Go.Proofs.YtoecnlhnfhongaaGreatDoor

namespace Go.Proofs.YtoecnlhnfhongaaGreatDoor
open Go.RowKit

def partZ (s : ByteArray) (p n : Nat) : Nat := beL (sectL s p n)
/-- The part of s at p: its length in n bytes, then its bytes; and the place behind it. -/
def partN (s : ByteArray) (p n : Nat) : Option (ByteArray × Nat) := if p + n ≤ s.size ∧ p + n + partZ s p n ≤ s.size then some (s.extract (p + n) (p + n + partZ s p n), p + n + partZ s p n) else none

theorem ret_part {t u : ByteArray} {a b : Int} (h1 : t = u) (h2 : a = b) : Ending.returned (.tuple #[.string t, .int .i64 a]) = .returned (.tuple #[.string u, .int .i64 b]) := by rw [h1, h2]
theorem specPart_neg (s : ByteArray) (n : Nat) (w : World) :
    Calls Tryz.prog 11 #[.string s, .int .i64 (-1), .int .i64 (n : Nat)] w fun e w' => e = .returned (.tuple #[.string ByteArray.empty, .int .i64 (-1)]) ∧ w' = w := by
  go_enter Tryz.func11, Tryz.ntmps11
  go_wp2
  go_ret2
  exact ⟨rfl, rfl⟩
set_option maxRecDepth 100000 in
set_option maxHeartbeats 1000000 in
theorem specPart_none (s : ByteArray) (p n : Nat) (w : World) (hs : s.size ≤ 1000000000) (hp : p ≤ 1000000000) (hn : n ≤ 2) (h : partN s p n = none) :
    Calls Tryz.prog 11 #[.string s, .int .i64 (p : Nat), .int .i64 (n : Nat)] w fun e w' => e = .returned (.tuple #[.string ByteArray.empty, .int .i64 (-1)]) ∧ w' = w := by
  by_cases h1 : p + n ≤ s.size
  · have HG : Hid (∀ W, Calls Tryz.prog 22 #[.string s, .int .i64 (p : Nat), .int .i64 (n : Nat)] W fun e w' => e = .returned (.int .i64 (partZ s p n : Nat)) ∧ w' = W) := fun W => specGet_any s p n W (by unfold maxLen; omega) h1 (by omega)
    have h2 : ¬ p + n + partZ s p n ≤ s.size := fun h2 => by
      unfold partN at h
      rw [if_pos ⟨h1, h2⟩] at h
      exact absurd h (by simp)
    have hz : partZ s p n < 65536 := by
      have h3 := beL_lt (sectL s p n)
      rw [sectL_length h1] at h3
      have h4 : 256 ^ n ≤ 256 ^ 2 := Nat.pow_le_pow_right (by omega) hn
      unfold partZ
      omega
    clear h
    generalize partZ s p n = Z at *
    go_enter Tryz.func11, Tryz.ntmps11
    go_wp2_with fail
    refine (HG.out _).mono ?_
    rintro e w1 ⟨rfl, hw⟩
    replace hw := hw.symm
    subst hw
    go_wp2
    go_ret2
    exact ⟨rfl, rfl⟩
  · clear h
    go_enter Tryz.func11, Tryz.ntmps11
    go_wp2
    go_ret2
    exact ⟨rfl, rfl⟩
set_option maxRecDepth 100000 in
set_option maxHeartbeats 1000000 in
theorem specPart_some (s : ByteArray) (p n : Nat) (t : ByteArray) (q : Nat) (w : World) (hs : s.size ≤ 1000000000) (hn : n ≤ 2) (h : partN s p n = some (t, q)) :
    Calls Tryz.prog 11 #[.string s, .int .i64 (p : Nat), .int .i64 (n : Nat)] w fun e w' => e = .returned (.tuple #[.string t, .int .i64 (q : Nat)]) ∧ w' = w := by
  unfold partN at h
  split at h
  · rename_i hh
    obtain ⟨h1, h2⟩ := hh
    simp only [Option.some.injEq, Prod.mk.injEq] at h
    have HG : Hid (∀ W, Calls Tryz.prog 22 #[.string s, .int .i64 (p : Nat), .int .i64 (n : Nat)] W fun e w' => e = .returned (.int .i64 (partZ s p n : Nat)) ∧ w' = W) := fun W => specGet_any s p n W (by unfold maxLen; omega) h1 (by omega)
    have HT : Hid (s.extract (p + n) (p + n + partZ s p n) = t ∧ p + n + partZ s p n = q) := h
    clear h
    generalize partZ s p n = Z at *
    go_enter Tryz.func11, Tryz.ntmps11
    go_wp2_with fail
    refine (HG.out _).mono ?_
    rintro e w1 ⟨rfl, hw⟩
    replace hw := hw.symm
    subst hw
    go_wp2
    go_ret2
    exact ⟨ret_part HT.out.1 (by rw [← HT.out.2]; go_num), rfl⟩
  · exact absurd h (by simp)
theorem part_at {s t : ByteArray} {n p : Nat} {pre post : List UInt8} (h : s.data.toList = pre ++ ((numS n (t.size : Nat)).data.toList ++ (t.data.toList ++ post))) (hp : pre.length = p) (ht : t.size < 256 ^ n) : partN s p n = some (t, p + n + t.size) := by
  have hnz : (numS n (t.size : Nat)).data.toList.length = n := by rw [← bsize]; exact numS_size n _
  have hz : partZ s p n = t.size := by
    unfold partZ sectL
    rw [h, ← hp, List.drop_left]
    have e : ((numS n (t.size : Nat)).data.toList ++ (t.data.toList ++ post)).take n = (numS n (t.size : Nat)).data.toList := List.take_left' hnz
    rw [e]
    exact be_numS n t.size ht
  have hsz : s.size = p + n + t.size + post.length := by
    rw [bsize, h]
    simp only [List.length_append]
    rw [hp, hnz, ← bsize]
    omega
  unfold partN
  rw [hz, if_pos ⟨by omega, by omega⟩]
  congr 2
  apply bext
  rw [blist_extract, h, ← List.append_assoc, ← List.append_assoc]
  have hl : (pre ++ (numS n (t.size : Nat)).data.toList).length = p + n := by rw [List.length_append, hp, hnz]
  have hl2 : (pre ++ (numS n (t.size : Nat)).data.toList ++ t.data.toList).length = p + n + t.size := by rw [List.length_append, hl, ← bsize]
  rw [List.take_left' hl2, List.drop_left' hl]
theorem part_le {s : ByteArray} {p n : Nat} {t : ByteArray} {q : Nat} (h : partN s p n = some (t, q)) : q ≤ s.size ∧ t.size ≤ s.size ∧ p + n ≤ q := by
  unfold partN at h
  split at h
  · rename_i hh
    simp only [Option.some.injEq, Prod.mk.injEq] at h
    obtain ⟨rfl, rfl⟩ := h
    refine ⟨hh.2, ?_, by omega⟩
    simp
    omega
  · exact absurd h (by simp)
end Go.Proofs.YtoecnlhnfhongaaGreatDoor

namespace Go.Proofs.YtoecnlhnfhongaaGreatDoor
open Go.RowKit

theorem specS8_any (s : ByteArray) (w : World) (hs : s.size ≤ 1000000000) :
    Calls Tryz.prog 30 #[.string s] w fun e w' => e = .returned (.string (s8B s)) ∧ Below w.heap.size w w' := by
  have HC : Hid (∀ W, Calls Tryz.prog 29 #[.int .i64 1, .int .i64 (s.size : Nat)] W fun e w' => e = .returned (.string (numS 1 (s.size : Nat))) ∧ Below W.heap.size W w') := fun W => specNum_any 1 (s.size : Nat) W (by omega) (by omega) (by omega)
  have hz := numS_size 1 (s.size : Nat)
  unfold s8B
  generalize numS 1 (s.size : Nat) = N at *
  go_enter Tryz.func30, Tryz.ntmps30
  go_wp2_with fail
  refine (HC.out _).mono ?_
  rintro e w1 ⟨rfl, hb1⟩
  have HB : Hid (Below w.heap.size w w1) := hb1
  clear hb1
  go_wp2
  go_ret
  exact ⟨rfl, HB.out⟩
theorem specS16_any (s : ByteArray) (w : World) (hs : s.size ≤ 1000000000) :
    Calls Tryz.prog 31 #[.string s] w fun e w' => e = .returned (.string (s16B s)) ∧ Below w.heap.size w w' := by
  have HC : Hid (∀ W, Calls Tryz.prog 29 #[.int .i64 2, .int .i64 (s.size : Nat)] W fun e w' => e = .returned (.string (numS 2 (s.size : Nat))) ∧ Below W.heap.size W w') := fun W => specNum_any 2 (s.size : Nat) W (by omega) (by omega) (by omega)
  have hz := numS_size 2 (s.size : Nat)
  unfold s16B
  generalize numS 2 (s.size : Nat) = N at *
  go_enter Tryz.func31, Tryz.ntmps31
  go_wp2_with fail
  refine (HC.out _).mono ?_
  rintro e w1 ⟨rfl, hb1⟩
  have HB : Hid (Below w.heap.size w w1) := hb1
  clear hb1
  go_wp2
  go_ret
  exact ⟨rfl, HB.out⟩

end Go.Proofs.YtoecnlhnfhongaaGreatDoor

