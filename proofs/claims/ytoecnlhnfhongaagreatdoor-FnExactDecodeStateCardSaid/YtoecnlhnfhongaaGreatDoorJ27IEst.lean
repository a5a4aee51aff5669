import Derived.Test.YtoecnlhnfhongaaGreatDoorJ26SCrc
import Derived.Test.YtoecnlhnfhongaaGreatDoorJ02BatL
import Derived.Test.YtoecnlhnfhongaaGreatDoorProg
import Derived.Test.YtoecnlhnfhongaaGreatDoorJ04AppA
import Derived.Deep.RegionHeld3
import Derived.Deep.DeepCutAuto
namespace Go.Proofs.YtoecnlhnfhongaaGreatDoor
open Go.RowKit

theorem xor_u8 (a b : Nat) (ha : a < 256) (hb : b < 256) : bits .xor .u8 (a : Int) (b : Int) = ((a ^^^ b : Nat) : Int) := by
  have hx : a ^^^ b < 2 ^ 8 := Nat.xor_lt_two_pow (by omega) (by omega)
  show IntKind.u8.wrap ((BitVec.ofInt 8 (a : Int) ^^^ BitVec.ofInt 8 (b : Int)).toNat : Int) = _
  rw [BitVec.toNat_xor, BitVec.ofInt_natCast, BitVec.ofInt_natCast, BitVec.toNat_ofNat, BitVec.toNat_ofNat, Nat.mod_eq_of_lt (by omega), Nat.mod_eq_of_lt (by omega)]
  simp only [IntKind.wrap, IntKind.bits, IntKind.signed]
  simp
  omega

theorem not_u32 (a : Nat) (ha : a < 4294967296) : bits .xor .u32 IntKind.u32.max (a : Int) = ((4294967295 - a : Nat) : Int) := by
  have h1 : bits .xor .u32 IntKind.u32.max (a : Int) = ((4294967295 ^^^ a : Nat) : Int) := xor_u32 4294967295 a (by omega) ha
  have h2 : (4294967295 ^^^ a : Nat) = 4294967295 - a := by
    have e : (BitVec.allOnes 32 ^^^ BitVec.ofNat 32 a).toNat = (~~~ BitVec.ofNat 32 a).toNat := by rw [BitVec.allOnes_xor]
    rw [BitVec.toNat_xor, BitVec.toNat_allOnes, BitVec.toNat_not, BitVec.toNat_ofNat, Nat.mod_eq_of_lt (by omega)] at e
    exact e
  rw [h1, h2]

set_option maxRecDepth 100000 in
set_option maxHeartbeats 1000000 in
theorem tabSum_any (b : Nat) (cur : Array Value) (s : ByteArray) (w : World) (hs : s.size ≤ maxLen) (hB : Blk w b cur 110) (hcur : ∀ i, i < 256 → cur[i]? = some (.int .u32 (crcT i : Nat))) :
    Calls Tryz.prog 59 #[.pointer (some ⟨b, 0, none⟩), .string s] w fun e w' => e = .returned (.int .i64 (crcV s : Nat)) ∧ Below w.heap.size w w' := by
  have HB : Hid (Blk w b cur 110 ∧ ∀ i, i < 256 → cur[i]? = some (.int .u32 (crcT i : Nat))) := ⟨hB, hcur⟩
  clear hB hcur
  unfold maxLen at hs
  go_enter Tryz.func59, Tryz.ntmps59
  go_wp2
  go_loopw [5, 6, 9] (fun x _ c wr => ∃ (k X : Nat), k ≤ s.size ∧ c = .int .i64 k ∧ x = .int .u32 X ∧ X < 4294967296 ∧ Hid (X = crcL (s.data.toList.take k)) ∧ Hid (Below w.heap.size w wr)) (fun _ _ c _ => s.size - (intOf c).toNat)
  case atStart => exact ⟨0, 4294967295, by omega, rfl, rfl, by omega, by show _ = _; simp [crcL], Below.refl _ _⟩
  case round =>
    obtain ⟨k, X, hk, rfl, rfl, hX, hx, hbel⟩ := hrel
    by_cases hlt : k < s.size
    · have hc := (s[k]).toNat_lt
      obtain ⟨N, T, Y, hN, hT, hY, hxr, hxt, hcell, hcr⟩ : ∃ N T Y : Nat, N < 256 ∧ T < 4294967296 ∧ Y < 4294967296 ∧ bits .xor .u8 ((X : Int) % 256) ((s[k]).toNat : Int) = (N : Int) ∧ bits .xor .u32 ((X : Int) / 256) (T : Int) = (Y : Int) ∧ wr.cell? ⟨b, N, none⟩ = some (.int .u32 (T : Nat)) ∧ Hid (crcByte X s[k] = Y) := by
        have hxr := xor_u8 (X % 256) (s[k]).toNat (by omega) (by omega)
        have hi : (X % 256) ^^^ (s[k]).toNat < 256 := Nat.xor_lt_two_pow (n := 8) (by omega) (by omega)
        have hb' := HB.out.1.later hbel.out
        have hT := crcT_lt hi
        refine ⟨_, _, _, hi, hT, Nat.xor_lt_two_pow (n := 32) (by omega) hT, hxr, xor_u32 (X / 256) _ (by omega) hT, by rw [hb'.cell]; exact HB.out.2 _ hi, crc_table X _ (by omega)⟩
      go_wp2
      go_region
      go_wp2
      refine ⟨⟨k + 1, Y, by omega, by go_num, rfl, hY, ?_, hbel.out.drew⟩, by simp [intOf]; omega⟩
      show _ = _
      rw [take_snoc s k hlt, crcL_snoc, ← hx.out, hcr.out]
    · have e : k = s.size := by omega
      subst e
      have hn := not_u32 X hX
      go_wp2
      refine bodyPost_ret (v := .int .i64 (crcV s : Nat)) ?_ rfl ⟨rfl, hbel.out⟩
      have e2 : wrap64 ((4294967295 - X : Nat) : Int) = ((4294967295 - X : Nat) : Int) := by simp only [wrap64]; omega
      rw [e2, show crcV s = 4294967295 - X by rw [crcV, hx.out, List.take_of_length_le (by simp)]]
      simp [results, Tryz.results59, go_sem]
end Go.Proofs.YtoecnlhnfhongaaGreatDoor

namespace Go.Proofs.YtoecnlhnfhongaaGreatDoor
open Go.RowKit

set_option maxRecDepth 100000 in
set_option maxHeartbeats 1000000 in
theorem implCrc_any (s : ByteArray) (w : World) (hs : s.size ≤ maxLen) :
    Calls Tryz.prog 41 #[.string s] w fun e w' => e = .returned (.int .i64 (crcV s : Nat)) ∧ Below w.heap.size w w' := by
  have HS : Hid (s.size ≤ maxLen) := hs
  clear hs
  go_enter Tryz.func41, Tryz.ntmps41
  go_wp2_with fail
  refine (makeTab_any _).mono ?_
  rintro e w1 ⟨b, cur, rfl, _, hB, hcur, hb1⟩
  have HB : Hid (Blk w1 b cur 110 ∧ (∀ i, i < 256 → cur[i]? = some (.int .u32 (crcT i : Nat))) ∧ Below w.heap.size w w1) := ⟨hB, hcur, hb1⟩
  clear hB hcur hb1
  go_wp2_with fail
  refine (tabSum_any b cur s _ HS.out HB.out.1 HB.out.2.1).mono ?_
  rintro e w2 ⟨rfl, hb2⟩
  have HB2 : Hid (Below w.heap.size w w2) := bto HB.out.2.2 hb2
  clear hb2
  go_wp2
  go_ret
  exact ⟨rfl, HB2.out⟩
end Go.Proofs.YtoecnlhnfhongaaGreatDoor

namespace Go.Proofs.YtoecnlhnfhongaaGreatDoor
open Go.RowKit

def BigE (ts : List TenD) : Prop := ∀ i (h : i < ts.length), ts[i].name.size ≤ 1000000000 ∧ ts[i].mets.length ≤ 2000000 ∧ ts[i].sers.length ≤ 2000000 ∧ (∀ j (h' : j < ts[i].mets.length), ts[i].mets[j].s.size ≤ 1000000000) ∧ (∀ j (h' : j < ts[i].sers.length), ts[i].sers[j].s.size ≤ 1000000000)
theorem encTs_take_le (ts : List TenD) (k : Nat) : (encTs (ts.take k)).size ≤ (encTs ts).size := by
  have := encTs_append (ts.take k) (ts.drop k)
  rw [List.take_append_drop] at this
  rw [this, ByteArray.size_append]; omega
theorem cat_encT : ∀ (ts : List TenD), catB (ts.map encT) = encTs ts
  | [] => rfl
  | t :: q => by rw [List.map_cons, catB, cat_encT q, encTs]
theorem sum_cat (ps : List ByteArray) : sumB ps = (catB ps).size := (catB_size ps).symm

set_option maxRecDepth 100000 in
theorem implWithin_any (v m : Int) (w : World) : Calls Tryz.prog 36 #[.int .i64 v, .int .i64 m] w fun e w' => e = .returned (.bool (decide (0 ≤ v ∧ v ≤ m))) ∧ w' = w := by
  by_cases h1 : 0 ≤ v
  · have e : decide (0 ≤ v ∧ v ≤ m) = decide (v ≤ m) := by simp [h1]
    rw [e]
    go_enter Tryz.func36, Tryz.ntmps36
    go_wp2
    go_ret
    exact ⟨rfl, rfl⟩
  · have e : decide (0 ≤ v ∧ v ≤ m) = false := by simp [h1]
    rw [e]
    go_enter Tryz.func36, Tryz.ntmps36
    go_wp2
    go_ret
    exact ⟨rfl, rfl⟩

set_option maxRecDepth 100000 in
set_option maxHeartbeats 8000000 in
theorem implEst_any (lsn now : Int) (a : Option Addr) (cap : Nat) (ts : List TenD) (w : World) (hf : TensIn w a ts) (hB : BigE ts) (hlen : ts.length ≤ 2000000) (hz : (encTs ts).size ≤ 100000000) :
    Calls Tryz.prog 17 #[.int .i64 lsn, .agg #[.int .i64 now, .slice a ts.length cap]] w fun e w' => e = .returned (.string (staB lsn now ts)) ∧ Below w.heap.size w w' := by
  have HWI : Hid (∀ W, Calls Tryz.prog 36 #[.int .i64 lsn, .int .i64 1000000000000000] W fun e w' => e = .returned (.bool (decide (0 ≤ lsn ∧ lsn ≤ 1000000000000000))) ∧ w' = W) := fun W => implWithin_any _ _ W
  by_cases c1 : ¬ (0 ≤ lsn ∧ lsn ≤ 1000000000000000)
  · have E : Hid (staB lsn now ts = ByteArray.empty) := staB_no fun h => c1 ⟨h.1, h.2.1⟩
    rw [E.out]
    rw [show decide (0 ≤ lsn ∧ lsn ≤ 1000000000000000) = false from decide_eq_false c1] at HWI
    clear hf hB c1
    go_enter Tryz.func17, Tryz.ntmps17
    go_wp2_with fail
    refine (HWI.out _).mono ?_
    rintro e w1 ⟨rfl, hw⟩
    replace hw := hw.symm
    subst hw
    go_wp2
    go_ret
    exact ⟨rfl, bnew _ _⟩
  replace c1 := Classical.not_not.1 c1
  rw [decide_eq_true c1] at HWI
  have HF : Hid (TensIn w a ts) := hf
  have HB : Hid (BigE ts) := hB
  have HU1 : Hid (∀ W, Calls Tryz.prog 37 #[.int .i64 lsn] W fun e w' => e = .returned (.string (numS 8 lsn)) ∧ Below W.heap.size W w') := fun W => implU64s_any lsn W
  have HU2 : Hid (∀ W, Calls Tryz.prog 37 #[.int .i64 now] W fun e w' => e = .returned (.string (numS 8 now)) ∧ Below W.heap.size W w') := fun W => implU64s_any now W
  have HU3 : Hid (∀ W, Calls Tryz.prog 38 #[.int .i64 (ts.length : Nat)] W fun e w' => e = .returned (.string (numS 4 (ts.length : Nat))) ∧ Below W.heap.size W w') := fun W => implU32_any _ W
  have hz1 := numS_size 8 lsn
  have hz2 := numS_size 8 now
  have hz3 := numS_size 4 (ts.length : Nat)
  have hzx : (staX lsn now ts).size = 24 + (encTs ts).size := by unfold staX; rw [ByteArray.size_append, staHead_size]
  have HX : Hid (staX lsn now ts = ckB ++ numS 8 lsn ++ numS 8 now ++ numS 4 (ts.length : Nat) ++ encTs ts) := rfl
  have HOK : Hid ((∀ i (h : i < ts.length), tenOKb ts[i]) → staB lsn now ts = staX lsn now ts ++ numS 4 (crcV (staX lsn now ts) : Nat)) := fun h => staB_ok ⟨c1.1, c1.2, h⟩
  have HNO : Hid (∀ k (h : k < ts.length), ¬ tenOKb ts[k] → staB lsn now ts = ByteArray.empty) := fun k h h2 => staB_at h h2 lsn now
  have HCR : Hid (∀ W, Calls Tryz.prog 41 #[.string (staX lsn now ts)] W fun e w' => e = .returned (.int .i64 (crcV (staX lsn now ts) : Nat)) ∧ Below W.heap.size W w') := fun W => implCrc_any _ W (by unfold maxLen; omega)
  have HU4 : Hid (∀ W, Calls Tryz.prog 38 #[.int .i64 (crcV (staX lsn now ts) : Nat)] W fun e w' => e = .returned (.string (numS 4 (crcV (staX lsn now ts) : Nat))) ∧ Below W.heap.size W w') := fun W => implU32_any _ W
  have hz4 := numS_size 4 (crcV (staX lsn now ts) : Nat)
  generalize numS 4 (crcV (staX lsn now ts) : Nat) = N4 at *
  generalize crcV (staX lsn now ts) = CR at *
  generalize staX lsn now ts = SX at *
  generalize staB lsn now ts = SB at *
  generalize numS 8 lsn = N1 at *
  generalize numS 8 now = N2 at *
  generalize numS 4 (ts.length : Nat) = N3 at *
  obtain ⟨CK, hck⟩ : ∃ C : ByteArray, C = ckB := ⟨_, rfl⟩
  have hzc : CK.size = 4 := by rw [hck]; rfl
  have HCK : Hid (CK = ckB) := hck
  rw [← hck] at HX
  clear hck
  obtain ⟨ti, hti, ht0, ht1, ht2⟩ := info_strR
  have HI : Hid (Tryz.prog.info? 9 = some ti) := hti
  clear hf hB hti
  go_enter Tryz.func17, Tryz.ntmps17
  go_wp2_with fail
  refine (HWI.out _).mono ?_
  rintro e w1 ⟨rfl, hw⟩
  replace hw := hw.symm
  subst hw
  clear HWI
  go_upto_region 3 with fail
  have X6 : Hid (Blk (w.alloc (.cells #[.int .i64 now, .slice a ts.length cap] 26)) w.heap.size #[.int .i64 now, .slice a ts.length cap] 26) := Blk.new _ _ _
  have B0 : Hid (Below w.heap.size w (w.alloc (.cells #[.int .i64 now, .slice a ts.length cap] 26))) := bnew _ _
  generalize w.alloc (.cells #[.int .i64 now, .slice a ts.length cap] 26) = w0 at *
  have HK : Hid (∀ w', Below w0.heap.size w0 w' → w'.cell? ⟨w.heap.size, 0, none⟩ = some (.int .i64 now) ∧ w'.cell? ⟨w.heap.size, 1, none⟩ = some (.slice a ts.length cap)) := fun w' h => by
    have q := X6.out.later h
    exact ⟨q.cell 0, q.cell 1⟩
  obtain ⟨x0, x1⟩ := HK.out w0 (Below.refl _ _)
  go_cut [5] (fun s wx => ∃ g, s = .slice (some ⟨g, 0, none⟩) 4 4 ∧ w0.heap.size ≤ g ∧ wx.heap[g]? = some (.cells #[.string CK, .string N1, .string N2, .string N3] 9 (0, 0)) ∧ Below w0.heap.size w0 wx)
  case first =>
    go_region_held3 (fun w' => w'.cell? ⟨w.heap.size, 0, none⟩ = some (.int .i64 now) ∧ w'.cell? ⟨w.heap.size, 1, none⟩ = some (.slice a ts.length cap))
      (first | go_keep | exact HK.out _ k4 | exact HK.out _ k3 | exact HK.out _ k2)
      (first
        | (go_at_call 37; (fail_if_success (have q := k2)); refine (HU1.out _).mono ?_; rintro e w2 ⟨rfl, hb2⟩; have k2 : Below w0.heap.size w0 w2 := (by exact bto (Below.refl _ _).drew hb2))
        | (go_at_call 37; have q := k2; clear q; refine (HU2.out _).mono ?_; rintro e w3 ⟨rfl, hb3⟩; have k3 : Below w0.heap.size w0 w3 := (by exact bto k2 hb3))
        | (go_at_call 38; refine (HU3.out _).mono ?_; rintro e w4 ⟨rfl, hb4⟩; have k4 : Below w0.heap.size w0 w4 := (by exact bto k3 hb4)))
    all_goals (go_wp2_with fail; go_meet)
    all_goals exact ⟨_, rfl, k4.size, by rw [HCK.out]; exact heap_alloc_new _ _, bto k4 (bnew _ _)⟩
  obtain ⟨g0, rfl, hg0, hblk0, hbx⟩ := hcut
  rename World => w5
  have B5 : Hid (Below w.heap.size w w5) := bto B0.out hbx
  have HBL : Hid (w5.heap[g0]? = some (.cells #[.string CK, .string N1, .string N2, .string N3] 9 (0, 0)) ∧ w.heap.size ≤ g0) := ⟨hblk0, Nat.le_trans B0.out.size hg0⟩
  have HK5 : Hid (w5.cell? ⟨w.heap.size, 1, none⟩ = some (.slice a ts.length cap)) := (HK.out w5 hbx).2
  have y1 := HK5.out
  clear x0 x1 HK X6 hblk0 hg0 hbx B0 HU1 HU2 HU3 HK5
  go_wp2
  go_loopw [5, 26] (fun out i wr => ∃ (k : Nat) (ps : List ByteArray) (g cv : Nat), k ≤ ts.length ∧ i = .int .i64 k ∧ out = .slice (some ⟨g, 0, none⟩) ps.length cv ∧ ps.length ≤ 4 + k ∧ sumB ps ≤ 24 + (encTs (ts.take k)).size ∧ Hid (ps = [CK, N1, N2, N3] ++ (ts.take k).map encT) ∧ Hid (∀ j (h : j < ts.length), j < k → tenOKb ts[j]) ∧ Hid (wr.ownsRow w.heap.size 9 1 (.slice (some ⟨g, 0, none⟩) ps.length cv) ps.length (ps.map Value.string)) ∧ Below w.heap.size w wr) (fun _ i _ => ts.length - (intOf i).toNat)
  case atStart =>
    exact ⟨0, [CK, N1, N2, N3], _, _, Nat.zero_le _, rfl, rfl, by simp, by simp [sumB, encTs]; omega, by show _ = _; simp, fun j _ h => absurd h (by omega), ⟨rfl, Or.inr ⟨g0, 4, _, rfl, HBL.out.2, HBL.out.1, Nat.le_refl _, by simp [maxLen], rfl, rfl⟩⟩, B5.out⟩
  case round =>
    obtain ⟨k, ps, g, cv, hk, rfl, rfl, hpl, hps, HPS, HALL, HROW, hbel⟩ := hrel
    by_cases hlt : k < ts.length
    · obtain ⟨b, o, a1, c1', a2, c2', rfl, hb, d0, d1, d2, d3, p1, p2⟩ := (HF.out.later hbel).at hlt
      obtain ⟨q1, q2, q3, q4, q5⟩ := HB.out k hlt
      have HTE : Hid (∀ W, Below wr.heap.size wr W → Calls Tryz.prog 39 #[.agg #[.string ts[k].name, .int .i64 ts[k].limit, .slice a1 ts[k].mets.length c1', .slice a2 ts[k].sers.length c2']] W fun e w' => e = .returned (.string (tenV ts[k])) ∧ Below W.heap.size W w') := fun W hW => implTen_any ts[k] a1 a2 c1' c2' W (p1.later hW) (p2.later hW) q1 q2 q3 q4 q5
      have htl := encTs_take_le ts (k + 1)
      have hts := encTs_take ts k hlt
      have hes := encT_size ts[k]
      have hss : (encTs (ts.take (k + 1))).size = (encTs (ts.take k)).size + (encT ts[k]).size := by rw [hts, ByteArray.size_append]
      have hnb : ¬ b = wr.heap.size := by omega
      have hsz := hbel.size
      by_cases hok : tenOKb ts[k]
      · rw [tenV_ok hok] at HTE
        have HA2 : Hid (∀ j (h : j < ts.length), j < k + 1 → tenOKb ts[j]) := fun j h hj => by
          rcases Nat.lt_or_ge j k with h1 | h1
          · exact HALL.out j h h1
          · obtain rfl : j = k := by omega
            exact hok
        have E2 : Hid (ps ++ [encT ts[k]] = [CK, N1, N2, N3] ++ (ts.take (k + 1)).map encT) := by
          show _ = _
          rw [HPS.out, List.take_succ_eq_append_getElem hlt, List.map_append, List.append_assoc]; rfl
        have hne : (encT ts[k]).toList.isEmpty = false := by
          rw [ByteArray.toList_eq]
          cases h : (encT ts[k]).data.toList with
          | nil => have h9 : (encT ts[k]).size = 0 := by rw [ByteArray.size, ← Array.length_toList, h]; rfl
                   omega
          | cons x l => rfl
        have hne2 : ((encT ts[k]).toList == []) = false := by simpa using hne
        have HSS : Hid ((encTs (ts.take (k + 1))).size = (encTs (ts.take k)).size + (encT ts[k]).size ∧ (encTs (ts.take (k + 1))).size ≤ (encTs ts).size) := ⟨hss, htl⟩
        clear hok HALL hts hes hss htl q1 q2 q3 q4 q5 p1 p2
        generalize encT ts[k] = S at *
        generalize ts[k].name = nm at *
        generalize ts[k].limit = li at *
        generalize ts[k].mets.length = m1 at *
        generalize ts[k].sers.length = m2 at *
        go_wp2_with fail
        refine (HTE.out _ (bnew _ _)).mono ?_
        rintro e w4 ⟨rfl, hb4⟩
        have hwB : w.heap.size ≤ w4.heap.size := by have := hb4.size; simp at this; omega
        have HROW4 : Hid (w4.ownsRow w.heap.size 9 1 (.slice (some ⟨g, 0, none⟩) ps.length cv) ps.length (ps.map Value.string) ∧ Below w.heap.size w w4) := ⟨row_later (row_later HROW.out (bnew _ _)) hb4, bto (bto hbel (bnew _ _)) hb4⟩
        clear hb4 HROW hbel HTE d0 d1 d2 d3
        go_wp2_with (at_builtin; refine wpList_append_lies _ rfl _ _ _ rfl w.heap.size 9 ti _ 1 16 Tryz.underlying72 HI.out ht0 ht1 ht2 rfl (by omega) (.slice (some ⟨g, 0, none⟩) ps.length cv) ps.length (ps.map Value.string) rfl (by exact row_later HROW4.out.1 (bnew _ _)) ⟨w4.heap.size, 0, none⟩ 1 1 [.string S] rfl rfl (by exact World.news_of_block (heap_alloc_new _ _)) (by simp [Value.oneCell']) (by omega) (by simp [maxLen]; omega) (by omega) (by simp; omega) (w4.heap.size + 1) (by simp) ?_; intro g5 cap5 w5 hown5 hgrow5 hat5 hlt5)
        have hgw : w.heap.size ≤ g := row_from HROW4.out.1 g rfl
        have hB5 : Below w.heap.size w w5 := (bto HROW4.out.2 (bnew _ _)).grown hgrow5 (by simp; omega) (fun q hq => by simp [Value.ownBlock] at hq; omega)
        have hxs : ps.map Value.string ++ [Value.string S] = (ps ++ [S]).map Value.string := by simp
        have hle : (ps ++ [S]).length = ps.length + 1 := by simp
        have hsm : sumB (ps ++ [S]) = sumB ps + S.size := by rw [sumB_append]; simp [sumB]
        rw [hxs, ← hle] at hown5
        exact ⟨⟨k + 1, ps ++ [S], g5, cap5, by omega, by go_num, by rw [hle], by rw [hle]; omega, by have := HSS.out; omega, E2.out, HA2.out, hown5, hB5⟩, by simp [intOf]; omega⟩
      · rw [tenV_no hok] at HTE
        have E : Hid (SB = ByteArray.empty) := HNO.out k hlt hok
        have HTE' : Hid (∀ W, Below wr.heap.size wr W → Calls Tryz.prog 39 #[.agg #[.string ts[k].name, .int .i64 ts[k].limit, .slice a1 ts[k].mets.length c1', .slice a2 ts[k].sers.length c2']] W fun e w' => e = .returned (.string ByteArray.empty) ∧ Below W.heap.size W w') := HTE
        have hne : ByteArray.empty.toList.isEmpty = true := by rw [ByteArray.toList_eq]; rfl
        have hne2 : (ByteArray.empty.toList == []) = true := by rw [ByteArray.toList_eq]; rfl
        clear hok HALL hts hes hss htl q1 q2 q3 q4 q5 p1 p2 HROW HTE
        obtain ⟨EM, hEM⟩ : ∃ E : ByteArray, E = ByteArray.empty := ⟨_, rfl⟩
        rw [← hEM] at HTE' hne hne2 E
        have HEM : Hid (EM = ByteArray.empty) := hEM
        clear hEM
        generalize ts[k].name = nm at *
        generalize ts[k].limit = li at *
        generalize ts[k].mets.length = m1 at *
        generalize ts[k].sers.length = m2 at *
        go_wp2_with fail
        refine (HTE'.out _ (bnew _ _)).mono ?_
        rintro e w4 ⟨rfl, hb4⟩
        have BW : Hid (Below w.heap.size w w4) := bto (bto hbel (bnew _ _)) hb4
        clear hb4 d0 d1 d2 d3 HTE'
        go_wp2
        go_ret
        exact ⟨by rw [E.out, HEM.out]; rfl, BW.out⟩
    · have E2 : Hid (catB ps = SX) := by
        show _ = _
        rw [HPS.out, List.take_of_length_le (by omega), catB_append, cat_encT, HX.out]
        simp [catB, ByteArray.append_assoc]
      have hall : ∀ i (h : i < ts.length), tenOKb ts[i] := fun j h => HALL.out j h (by omega)
      have E3 : Hid (SB = SX ++ N4) := HOK.out hall
      have hle := encTs_take_le ts k
      obtain ⟨hcv, hg, hcs⟩ := strs_cells HROW.out
      have HJ : Hid (Calls Tryz.prog 40 #[.slice (some ⟨g, 0, none⟩) ps.length cv] wr fun e w' => e = .returned (.string (catB ps)) ∧ Below wr.heap.size wr w') := joined_any g ps.length cv ps wr rfl hcs hg hcv (by omega) (by omega)
      rw [E2.out] at HJ
      have n1 : ¬ (9223372036854775807 < SX.size + N4.size) := by omega
      clear HROW hcs hall HALL
      go_wp2_with fail
      refine HJ.out.mono ?_
      rintro e w2 ⟨rfl, hb2⟩
      have B2 : Hid (Below w.heap.size w w2) := bto hbel hb2
      clear hb2
      go_wp2_with fail
      refine (HCR.out _).mono ?_
      rintro e w3 ⟨rfl, hb3⟩
      have B3 : Hid (Below w.heap.size w w3) := bto B2.out hb3
      clear hb3
      go_wp2_with fail
      refine (HU4.out _).mono ?_
      rintro e w4 ⟨rfl, hb4⟩
      have B4 : Hid (Below w.heap.size w w4) := bto B3.out hb4
      clear hb4
      go_wp2
      go_ret
      exact ⟨by rw [E3.out]; rfl, B4.out⟩
end Go.Proofs.YtoecnlhnfhongaaGreatDoor

