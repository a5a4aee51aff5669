import Derived.Test.YtoecnlhnfhongaaGreatDoorProg
import Derived.Test.YtoecnlhnfhongaaGreatDoorJ03StaB
import Derived.Test.YtoecnlhnfhongaaGreatDoorJ02BatL
import Derived.Test.YtoecnlhnfhongaaGreatDoorJ19SS8
import Derived.Test.YtoecnlhnfhongaaGreatDoorJ26SCrc
import Derived.Test.YtoecnlhnfhongaaGreatDoorJ30AppS
import Derived.Deep.RegionHeld3
import Derived.Deep.DeepCutAuto
namespace Go.Proofs.YtoecnlhnfhongaaGreatDoor
open Go.RowKit

def BigSe (ts : List TenD) : Prop := ∀ i (h : i < ts.length), ts[i].name.size ≤ 1000000000 ∧ ts[i].mets.length ≤ 2000000 ∧ ts[i].sers.length ≤ 2000000 ∧ (∀ j (h' : j < ts[i].mets.length), ts[i].mets[j].s.size ≤ 1000000000) ∧ (∀ j (h' : j < ts[i].sers.length), ts[i].sers[j].s.size ≤ 1000000000)
theorem btw_dec' (x lo hi : Int) : btwB x lo hi = decide (lo ≤ x ∧ x ≤ hi) := by
  unfold btwB
  by_cases h1 : lo ≤ x <;> by_cases h2 : x ≤ hi <;> simp [h1, h2]
theorem encTs_take_le' (ts : List TenD) (k : Nat) : (encTs (ts.take k)).size ≤ (encTs ts).size := by
  have := encTs_append (ts.take k) (ts.drop k)
  rw [List.take_append_drop] at this
  rw [this, ByteArray.size_append]; omega
/-- The conversion, as a word of its own: the walk leaves it to the law. -/
def cvOpS : Op := Op.convert 9 62 (Operand.tmp 26)
theorem ne_block {v v' : Value} {BX W : Nat} (h : v.ownBlock ≠ some BX) (h2 : v'.ownBlock = v.ownBlock ∨ v'.ownBlock = some W) (hlt : BX < W) : v'.ownBlock ≠ some BX := by
  rcases h2 with h2 | h2
  · rw [h2]; exact h
  · rw [h2]; intro e; have := Option.some.inj e; omega

set_option maxRecDepth 100000 in
set_option maxHeartbeats 8000000 in
theorem specEst_any (lsn now : Int) (a : Option Addr) (cap : Nat) (ts : List TenD) (w : World) (hf : TensIn w a ts) (hB : BigSe ts) (hR : RngT ts) (hl : I64p lsn) (hno : I64p now) (hlen : ts.length ≤ 2000000) (hz : (encTs ts).size ≤ 100000000) :
    Calls Tryz.prog 13 #[.int .i64 lsn, .agg #[.int .i64 now, .slice a ts.length cap]] w fun e w' => e = .returned (.string (staB lsn now ts)) ∧ Below w.heap.size w w' := by
  have HW1 : Hid (∀ W, Calls Tryz.prog 24 #[.int .i64 lsn, .int .i64 0, .int .i64 1000000000000000] W fun e w' => e = .returned (.bool (decide (0 ≤ lsn ∧ lsn ≤ 1000000000000000))) ∧ w' = W) := fun W => by have := between_any lsn 0 1000000000000000 W; rw [btw_dec'] at this; exact this
  by_cases c1 : ¬ (0 ≤ lsn ∧ lsn ≤ 1000000000000000)
  · have E : Hid (staB lsn now ts = ByteArray.empty) := staB_no fun h => c1 ⟨h.1, h.2.1⟩
    rw [E.out]
    rw [show decide (0 ≤ lsn ∧ lsn ≤ 1000000000000000) = false from decide_eq_false c1] at HW1
    clear hf hB c1 hR hl hno
    go_enter Tryz.func13, Tryz.ntmps13
    go_wp2_with fail
    refine (HW1.out _).mono ?_
    rintro e w1 ⟨rfl, hw⟩
    replace hw := hw.symm
    subst hw
    go_wp2
    go_ret
    exact ⟨rfl, bnew _ _⟩
  replace c1 := Classical.not_not.1 c1
  rw [decide_eq_true c1] at HW1
  have HF : Hid (TensIn w a ts) := hf
  have HB : Hid (BigSe ts) := hB
  have HR : Hid (RngT ts) := hR
  have HU1 : Hid (∀ W, Calls Tryz.prog 29 #[.int .i64 8, .int .i64 lsn] W fun e w' => e = .returned (.string (numS 8 lsn)) ∧ Below W.heap.size W w') := fun W => specNum_any 8 lsn W (by omega) hl.1 hl.2
  have HU2 : Hid (∀ W, Calls Tryz.prog 29 #[.int .i64 8, .int .i64 now] W fun e w' => e = .returned (.string (numS 8 now)) ∧ Below W.heap.size W w') := fun W => specNum_any 8 now W (by omega) hno.1 hno.2
  have HU3 : Hid (∀ W, Calls Tryz.prog 29 #[.int .i64 4, .int .i64 (ts.length : Nat)] W fun e w' => e = .returned (.string (numS 4 (ts.length : Nat))) ∧ Below W.heap.size W w') := fun W => specNum_any 4 (ts.length : Nat) W (by omega) (by omega) (by omega)
  have hz1 := numS_size 8 lsn
  have hz2 := numS_size 8 now
  have hz3 := numS_size 4 (ts.length : Nat)
  have hzx : (staX lsn now ts).size = 24 + (encTs ts).size := by unfold staX; rw [ByteArray.size_append, staHead_size]
  have HX : Hid (staX lsn now ts = ckB ++ numS 8 lsn ++ numS 8 now ++ numS 4 (ts.length : Nat) ++ encTs ts) := rfl
  have HOK : Hid ((∀ i (h : i < ts.length), tenOKb ts[i]) → staB lsn now ts = staX lsn now ts ++ numS 4 (crcV (staX lsn now ts) : Nat)) := fun h => staB_ok ⟨c1.1, c1.2, h⟩
  have HNO : Hid (∀ k (h : k < ts.length), ¬ tenOKb ts[k] → staB lsn now ts = ByteArray.empty) := fun k h h2 => staB_at h h2 lsn now
  have HCR : Hid (∀ W, Calls Tryz.prog 32 #[.string (staX lsn now ts)] W fun e w' => e = .returned (.int .i64 (crcV (staX lsn now ts) : Nat)) ∧ w' = W) := fun W => specCrc_any _ W (by unfold maxLen; omega)
  have HU4 : Hid (∀ W, Calls Tryz.prog 29 #[.int .i64 4, .int .i64 (crcV (staX lsn now ts) : Nat)] W fun e w' => e = .returned (.string (numS 4 (crcV (staX lsn now ts) : Nat))) ∧ Below W.heap.size W w') := fun W => by
    have := crcV_lt (staX lsn now ts)
    exact specNum_any 4 _ W (by omega) (by omega) (by omega)
  have hz4 := numS_size 4 (crcV (staX lsn now ts) : Nat)
  generalize numS 4 (crcV (staX lsn now ts) : Nat) = N4 at *
  generalize crcV (staX lsn now ts) = CR at *
  generalize staX lsn now ts = SX at *
  generalize staB lsn now ts = SB at *
  generalize numS 8 lsn = N1 at *
  generalize numS 8 now = N2 at *
  generalize numS 4 (ts.length : Nat) = N3 at *
  have hzd : (ckB ++ N1 ++ N2 ++ N3).size = 24 := by rw [ByteArray.size_append, ByteArray.size_append, ByteArray.size_append, hz1, hz2, hz3]; rfl
  obtain ⟨CV, CN, hcv, hcn⟩ := conv_fun (ckB ++ N1 ++ N2 ++ N3) (by omega)
  have HCN : Hid (∀ w, RowS (CN w) w.heap.size (CV w) (ckB ++ N1 ++ N2 ++ N3) ∧ Below w.heap.size w (CN w)) := hcn
  unfold ckB at hcv
  obtain ⟨HD, hHD⟩ : ∃ H : ByteArray, H = ckB ++ N1 ++ N2 ++ N3 := ⟨_, rfl⟩
  rw [← hHD] at HCN HX hzd
  clear hf hB hR hl hno hcn hHD
  go_enter Tryz.func13, Tryz.ntmps13
  go_wp2_with fail
  refine (HW1.out _).mono ?_
  rintro e w1 ⟨rfl, hw⟩
  replace hw := hw.symm
  subst hw
  clear HW1
  go_upto_region 3 with fail
  have X6 : Hid (Blk (w.alloc (.cells #[.int .i64 now, .slice a ts.length cap] 26)) w.heap.size #[.int .i64 now, .slice a ts.length cap] 26) := heap_alloc_new _ _
  have B0 : Hid (Below w.heap.size w (w.alloc (.cells #[.int .i64 now, .slice a ts.length cap] 26))) := bnew _ _
  generalize w.alloc (.cells #[.int .i64 now, .slice a ts.length cap] 26) = w0 at *
  have HK : Hid (∀ w', Below w0.heap.size w0 w' → w'.cell? ⟨w.heap.size, 0, none⟩ = some (.int .i64 now) ∧ w'.cell? ⟨w.heap.size, 1, none⟩ = some (.slice a ts.length cap)) := fun w' h => by
    have q := X6.out.later h
    exact ⟨q.cell 0, q.cell 1⟩
  obtain ⟨x0, x1⟩ := HK.out w0 (Below.refl _ _)
  go_cut [5] (fun s wx => RowS wx w0.heap.size s HD ∧ Below w0.heap.size w0 wx)
  case first =>
    rw [show Op.convert 9 62 (Operand.tmp 26) = cvOpS from rfl]
    have hop : cvOpS = Op.convert 9 62 (Operand.tmp 26) := rfl
    go_region_held3 (fun w' => w'.cell? ⟨w.heap.size, 0, none⟩ = some (.int .i64 now) ∧ w'.cell? ⟨w.heap.size, 1, none⟩ = some (.slice a ts.length cap))
      (first | go_keep | exact HK.out _ (bto k4 (HCN.out _).2) | exact HK.out _ k4 | exact HK.out _ k3 | exact HK.out _ k2)
      (first
        | (go_at_call 29; (fail_if_success (have q := k2)); refine (HU1.out _).mono ?_; rintro e w2 ⟨rfl, hb2⟩; have k2 : Below w0.heap.size w0 w2 := (by exact bto (Below.refl _ _).drew hb2))
        | (go_at_call 29; have q := k2; clear q; (fail_if_success (have q := k3)); refine (HU2.out _).mono ?_; rintro e w3 ⟨rfl, hb3⟩; have k3 : Below w0.heap.size w0 w3 := (by exact bto k2 hb3))
        | (go_at_call 29; have q := k3; clear q; refine (HU3.out _).mono ?_; rintro e w4 ⟨rfl, hb4⟩; have k4 : Below w0.heap.size w0 w4 := (by exact bto k3 hb4)))
    all_goals (go_wp2_with fail; go_meet)
    all_goals exact ⟨(HCN.out _).1.mono k4.size, bto k4 (HCN.out _).2⟩
  obtain ⟨hrow0, hbx⟩ := hcut
  rename World => w5
  have B5 : Hid (Below w.heap.size w w5) := bto B0.out hbx
  have HBL : Hid (RowS w5 w.heap.size u5 HD) := hrow0.mono B0.out.size
  have HK5 : Hid (w5.cell? ⟨w.heap.size, 1, none⟩ = some (.slice a ts.length cap)) := (HK.out w5 hbx).2
  have y1 := HK5.out
  clear x0 x1 HK X6 hrow0 hbx B0 HU1 HU2 HU3 HK5 HCN hcv
  go_wp2
  go_loopw [5, 31] (fun out i wr => ∃ (k : Nat) (st : ByteArray), k ≤ ts.length ∧ i = .int .i64 k ∧ st.size ≤ 100000024 ∧ Hid (st = HD ++ encTs (ts.take k)) ∧ Hid (∀ j (h : j < ts.length), j < k → tenOKb ts[j]) ∧ Hid (RowS wr w.heap.size out st) ∧ Below w.heap.size w wr) (fun _ i _ => ts.length - (intOf i).toNat)
  case atStart =>
    exact ⟨0, HD, Nat.zero_le _, rfl, by omega, by show _ = _; simp [encTs], fun j _ h => absurd h (by omega), HBL.out, B5.out⟩
  case round =>
    obtain ⟨k, st, hk, rfl, hst, HST, HALL, HROW, hbel⟩ := hrel
    by_cases hlt : k < ts.length
    · obtain ⟨b, o, a1, c1', a2, c2', rfl, hb, e0, e1, e2, e3, p1, p2⟩ := HF.out.at hlt
      obtain ⟨q1, q2, q3, q4, q5⟩ := HB.out k hlt
      obtain ⟨r1, r2, r3⟩ := HR.out k hlt
      have d0 : wr.cell? ⟨b, o + k * 4, none⟩ = some (.string ts[k].name) := (hbel.cell hb).trans e0
      have d1 : wr.cell? ⟨b, o + k * 4 + 1, none⟩ = some (.int .i64 ts[k].limit) := (hbel.cell hb).trans e1
      have d2 : wr.cell? ⟨b, o + k * 4 + 2, none⟩ = some (.slice a1 ts[k].mets.length c1') := (hbel.cell hb).trans e2
      have d3 : wr.cell? ⟨b, o + k * 4 + 3, none⟩ = some (.slice a2 ts[k].sers.length c2') := (hbel.cell hb).trans e3
      have P1 : Hid (PairsIn w a1 ts[k].mets) := p1
      have P2 : Hid (PairsIn w a2 ts[k].sers) := p2
      have Q4 : Hid (∀ j (h' : j < ts[k].mets.length), ts[k].mets[j].s.size ≤ 1000000000) := q4
      have Q5 : Hid (∀ j (h' : j < ts[k].sers.length), ts[k].sers[j].s.size ≤ 1000000000) := q5
      have R2 : Hid (RngP ts[k].mets) := r2
      have R3 : Hid (RngP ts[k].sers) := r3
      have HS8 : Hid (∀ W, Calls Tryz.prog 30 #[.string ts[k].name] W fun e w' => e = .returned (.string (s8B ts[k].name)) ∧ Below W.heap.size W w') := fun W => specS8_any ts[k].name W q1
      have HN8 : Hid (∀ W, Calls Tryz.prog 29 #[.int .i64 8, .int .i64 ts[k].limit] W fun e w' => e = .returned (.string (numS 8 ts[k].limit)) ∧ Below W.heap.size W w') := fun W => specNum_any 8 _ W (by omega) r1.1 r1.2
      have HN4 : Hid (∀ W, Calls Tryz.prog 29 #[.int .i64 4, .int .i64 (ts[k].mets.length : Nat)] W fun e w' => e = .returned (.string (numS 4 (ts[k].mets.length : Nat))) ∧ Below W.heap.size W w') := fun W => specNum_any 4 _ W (by omega) (by omega) (by omega)
      have HN5 : Hid (∀ W, Calls Tryz.prog 29 #[.int .i64 4, .int .i64 (ts[k].sers.length : Nat)] W fun e w' => e = .returned (.string (numS 4 (ts[k].sers.length : Nat))) ∧ Below W.heap.size W w') := fun W => specNum_any 4 _ W (by omega) (by omega) (by omega)
      have hq1 := s8B_size ts[k].name
      have hq2 := numS_size 8 ts[k].limit
      have hq3 := numS_size 4 (ts[k].mets.length : Nat)
      have hq4 := numS_size 4 (ts[k].sers.length : Nat)
      have HEQ : Hid (encTs (ts.take (k + 1)) = encTs (ts.take k) ++ (s8B ts[k].name ++ numS 8 ts[k].limit ++ numS 4 (ts[k].mets.length : Nat) ++ encPs ts[k].mets ++ numS 4 (ts[k].sers.length : Nat) ++ encPs ts[k].sers)) := by show _ = _; rw [encTs_take ts k hlt]; rfl
      have HLE : Hid ((HD ++ encTs (ts.take (k + 1))).size ≤ 100000024) := by show _ ≤ _; have := encTs_take_le' ts (k + 1); rw [ByteArray.size_append]; omega
      have HA2 : Hid (ts[k].name.size ≤ 255 → allP ts[k].mets → allP ts[k].sers → ∀ j (h : j < ts.length), j < k + 1 → tenOKb ts[j]) := fun z1 z2 z3 j h hj => by
        rcases Nat.lt_or_ge j k with h1 | h1
        · exact HALL.out j h h1
        · obtain rfl : j = k := by omega
          exact ⟨z1, z2, z3⟩
      have HNN : Hid (¬ ts[k].name.size ≤ 255 → SB = ByteArray.empty) := fun z => HNO.out k hlt fun hh => z hh.1
      have HNM : Hid (∀ j (h : j < ts[k].mets.length), ¬ ts[k].mets[j].s.size ≤ 65535 → SB = ByteArray.empty) := fun j h z => HNO.out k hlt fun hh => z (hh.2.1 j h)
      have HNS : Hid (∀ j (h : j < ts[k].sers.length), ¬ ts[k].sers[j].s.size ≤ 65535 → SB = ByteArray.empty) := fun j h z => HNO.out k hlt fun hh => z (hh.2.2 j h)
      have hnb : ¬ b = wr.heap.size := by have := hbel.size; omega
      have hsz := hbel.size
      clear e0 e1 e2 e3 p1 p2 q4 q5 r1 r2 r3 HALL HNO
      generalize s8B ts[k].name = S1 at *
      generalize numS 8 ts[k].limit = S2 at *
      generalize numS 4 (ts[k].mets.length : Nat) = S3 at *
      generalize numS 4 (ts[k].sers.length : Nat) = S4 at *
      generalize ts[k].name = nm at *
      generalize ts[k].limit = li at *
      generalize ts[k].mets = ms at *
      generalize ts[k].sers = ss at *
      by_cases hok : nm.size ≤ 255
      · have hgt : ¬ (nm.size : Int) > 255 := by omega
        obtain ⟨gv, hgv, hgv1, hgv2⟩ := HROW.out.lt
        have HNB : Hid (u5.ownBlock ≠ some wr.heap.size) := by show _ ≠ _; rw [hgv]; intro e; have := Option.some.inj e; omega
        obtain ⟨TC, hTC⟩ : ∃ TC : Array Value, TC = #[.string nm, .int .i64 li, .slice a1 ms.length c1', .slice a2 ss.length c2'] := ⟨_, rfl⟩
        have HT2 : Hid (TC[2]? = some (.slice a1 ms.length c1')) := by show _ = _; rw [hTC]; rfl
        have HT3 : Hid (TC[3]? = some (.slice a2 ss.length c2')) := by show _ = _; rw [hTC]; rfl
        have HBX : Hid (Blk (wr.alloc (.cells #[.string nm, .int .i64 li, .slice a1 ms.length c1', .slice a2 ss.length c2'] 39)) wr.heap.size TC 39) := by rw [hTC]; exact heap_alloc_new _ _
        have HR2 : Hid (RowS (wr.alloc (.cells #[.string nm, .int .i64 li, .slice a1 ms.length c1', .slice a2 ss.length c2'] 39)) w.heap.size u5 st ∧ Below w.heap.size w (wr.alloc (.cells #[.string nm, .int .i64 li, .slice a1 ms.length c1', .slice a2 ss.length c2'] 39))) := ⟨HROW.out.later (bnew _ _), bto hbel (bnew _ _)⟩
        have x0 : (wr.alloc (.cells #[.string nm, .int .i64 li, .slice a1 ms.length c1', .slice a2 ss.length c2'] 39)).cell? ⟨wr.heap.size, 0, none⟩ = some (.string nm) := (HBX.out.cell 0).trans (by rw [hTC]; rfl)
        have x1 : (wr.alloc (.cells #[.string nm, .int .i64 li, .slice a1 ms.length c1', .slice a2 ss.length c2'] 39)).cell? ⟨wr.heap.size, 1, none⟩ = some (.int .i64 li) := (HBX.out.cell 1).trans (by rw [hTC]; rfl)
        have x2 : (wr.alloc (.cells #[.string nm, .int .i64 li, .slice a1 ms.length c1', .slice a2 ss.length c2'] 39)).cell? ⟨wr.heap.size, 2, none⟩ = some (.slice a1 ms.length c1') := (HBX.out.cell 2).trans (by rw [hTC]; rfl)
        clear hTC hgv hgv1 hgv2 gv
        go_upto_region 9 with fail
        generalize wr.alloc (.cells #[.string nm, .int .i64 li, .slice a1 ms.length c1', .slice a2 ss.length c2'] 39) = W at *
        have hBX : wr.heap.size < W.heap.size := lt_of_block HBX.out
        have hww : w.heap.size ≤ W.heap.size := HR2.out.2.size
        have n1 : ¬ (9223372036854775807 < S1.size + S2.size) := by omega
        have n2 : ¬ (9223372036854775807 < S1.size + S2.size + S3.size) := by omega
        have HQ : Hid (S1.size = 1 + nm.size ∧ S2.size = 8 ∧ S3.size = 4 ∧ S4.size = 4) := ⟨hq1, hq2, hq3, hq4⟩
        clear HROW hnb hb d0 d1 d2 d3 hbel hsz hq1 hq2 hq3 hq4
        generalize wr.heap.size = BX at *
        clear wr
        have HKX : Hid (∀ w', Below W.heap.size W w' → w'.cell? ⟨BX, 0, none⟩ = some (.string nm) ∧ w'.cell? ⟨BX, 1, none⟩ = some (.int .i64 li) ∧ w'.cell? ⟨BX, 2, none⟩ = some (.slice a1 ms.length c1')) := fun w' h => ⟨(h.cell hBX).trans x0, (h.cell hBX).trans x1, (h.cell hBX).trans x2⟩
        go_region_held3 (fun w' => w'.cell? ⟨BX, 0, none⟩ = some (.string nm) ∧ w'.cell? ⟨BX, 1, none⟩ = some (.int .i64 li) ∧ w'.cell? ⟨BX, 2, none⟩ = some (.slice a1 ms.length c1'))
          (first
            | go_keep
            | exact hkx5
            | exact HKX.out _ hc3
            | exact HKX.out _ hc2
            | exact HKX.out _ hc1)
          ((first
            | (go_at_call 30; refine (HS8.out _).mono ?_; rintro e w1 ⟨rfl, hb1⟩; have hc1 : Below W.heap.size W w1 := (Below.refl _ W).drew.trans hb1)
            | (go_at_call 29; have q := hc1; clear q; (fail_if_success (have q := hc2)); refine (HN8.out _).mono ?_; rintro e w2 ⟨rfl, hb2⟩; have hc2 : Below W.heap.size W w2 := hc1.trans (hb2.mono hc1.size))
            | (go_at_call 29; have q := hc2; clear q; refine (HN4.out _).mono ?_; rintro e w3 ⟨rfl, hb3⟩; have hc3 : Below W.heap.size W w3 := hc2.trans (hb3.mono hc2.size))
            | (have q := hc3; clear q; refine step_append_s2 _ (by rfl) _ _ (by rfl) w.heap.size _ st (S1 ++ S2 ++ S3) (by rfl) (by exact HR2.out.1.later hc3) (by rfl) (by have := hc3.size; omega) (by have := HQ.out; rw [ByteArray.size_append, ByteArray.size_append]; omega) ?_; intro v5 w5 hrow5 hB5 hk5 hat5 hle5; have hblk5 : w5.heap[BX]? = w3.heap[BX]? := hk5 BX (by have := hc3.size; omega) HNB.out; have hkx5 : w5.cell? ⟨BX, 0, none⟩ = some (.string nm) ∧ w5.cell? ⟨BX, 1, none⟩ = some (.int .i64 li) ∧ w5.cell? ⟨BX, 2, none⟩ = some (.slice a1 ms.length c1') := (by have q := HKX.out _ hc3; exact ⟨(World.cell?_of_block hblk5).trans q.1, (World.cell?_of_block hblk5).trans q.2.1, (World.cell?_of_block hblk5).trans q.2.2⟩); have hB5' : Below w.heap.size w w5 := (bto HR2.out.2 hc3).trans hB5)))
        have HO5 : Hid ((RowS w5 w.heap.size v5 (st ++ (S1 ++ S2 ++ S3)) ∧ v5.ownBlock ≠ some BX ∧ Blk w5 BX TC 39) ∧ Below w.heap.size w w5) := ⟨⟨hrow5, ne_block HNB.out hat5 (by have := hc3.size; omega), hblk5.trans (HBX.out.later hc3)⟩, hB5'⟩
        have HST1 : Hid (st ++ (S1 ++ S2 ++ S3) = HD ++ encTs (ts.take k) ++ (S1 ++ S2 ++ S3)) := by show _ = _; rw [HST.out]
        have hst1 : (st ++ (S1 ++ S2 ++ S3)).size ≤ 200000000 := by have := HQ.out; rw [ByteArray.size_append, ByteArray.size_append, ByteArray.size_append]; omega
        have y2 : w5.cell? ⟨BX, 2, none⟩ = some (.slice a1 ms.length c1') := hkx5.2.2
        clear hrow5 hB5 hB5' hk5 hkx5 hat5 hle5 hblk5 HR2 HBX HNB HST hst x0 x1 x2 HKX HS8 HN8 HN4 hBX hww n1 n2 hc1 hc2 hc3
        generalize st ++ (S1 ++ S2 ++ S3) = st1 at *
        go_wp2
        go_loopw [5, 56] (fun out i wr => ∃ (k2 : Nat) (st : ByteArray), k2 ≤ ms.length ∧ i = .int .i64 k2 ∧ st.size ≤ 200000000 + k2 * 70000 ∧ Hid (st = st1 ++ encPs (ms.take k2)) ∧ Hid (∀ j (h : j < ms.length), j < k2 → ms[j].s.size ≤ 65535) ∧ Hid (RowS wr w.heap.size out st ∧ out.ownBlock ≠ some BX ∧ Blk wr BX TC 39) ∧ Below w.heap.size w wr) (fun _ i _ => ms.length - (intOf i).toNat)
        case atStart =>
          exact ⟨0, st1, Nat.zero_le _, rfl, by omega, by show _ = _; simp [encPs], fun j _ h => absurd h (by omega), HO5.out.1, HO5.out.2⟩
        case round =>
          obtain ⟨k2, st, hk2, rfl, hst, HST, HALL, HROW, hbel⟩ := hrel
          by_cases hlt2 : k2 < ms.length
          · obtain ⟨b2, o2, rfl, hb2, f0, f1⟩ := (P1.out.later hbel).at hlt2
            have hn1 := Q4.out k2 hlt2
            have hr1 := R2.out k2 hlt2
            by_cases hok2 : ms[k2].s.size ≤ 65535
            · have hgt2 : ¬ (ms[k2].s.size : Int) > 65535 := by omega
              have HS16 : Hid (∀ W, Calls Tryz.prog 31 #[.string ms[k2].s] W fun e w' => e = .returned (.string (s16B ms[k2].s)) ∧ Below W.heap.size W w') := fun W => specS16_any ms[k2].s W hn1
              have HM8 : Hid (∀ W, Calls Tryz.prog 29 #[.int .i64 8, .int .i64 ms[k2].n] W fun e w' => e = .returned (.string (numS 8 ms[k2].n)) ∧ Below W.heap.size W w') := fun W => specNum_any 8 _ W (by omega) hr1.1 hr1.2
              have hs3 := s16B_size ms[k2].s
              have hs4 := numS_size 8 ms[k2].n
              have HB2 : Hid (∀ j (h : j < ms.length), j < k2 + 1 → ms[j].s.size ≤ 65535) := fun j h hj => by
                rcases Nat.lt_or_ge j k2 with h1 | h1
                · exact HALL.out j h h1
                · obtain rfl : j = k2 := by omega
                  exact hok2
              have E2 : Hid (st ++ (s16B ms[k2].s ++ numS 8 ms[k2].n) = st1 ++ encPs (ms.take (k2 + 1))) := by show _ = _; rw [encPs_take ms k2 hlt2, HST.out, encP, ByteArray.append_assoc]
              clear hok2 HALL hr1
              generalize s16B ms[k2].s = U3 at *
              generalize numS 8 ms[k2].n = U4 at *
              generalize ms[k2].s = tx at *
              generalize ms[k2].n = nu at *
              have m1 : ¬ (9223372036854775807 < U3.size + U4.size) := by omega
              have HQ2 : Hid (U3.size = 2 + tx.size ∧ U4.size = 8) := ⟨hs3, hs4⟩
              have hnb : ¬ b2 = wr.heap.size := by omega
              have hsz := hbel.size
              have hBW : BX < wr.heap.size := lt_of_block HROW.out.2.2
              obtain ⟨gv, hgv, hgv1, hgv2⟩ := HROW.out.1.lt
              have HNB : Hid (u5.ownBlock ≠ some wr.heap.size) := by show _ ≠ _; rw [hgv]; intro e; have := Option.some.inj e; omega
              have HBX : Hid (Blk (wr.alloc (.cells #[.string tx, .int .i64 nu] 43)) wr.heap.size #[.string tx, .int .i64 nu] 43) := heap_alloc_new _ _
              have HR2 : Hid (RowS (wr.alloc (.cells #[.string tx, .int .i64 nu] 43)) w.heap.size u5 st ∧ Below w.heap.size w (wr.alloc (.cells #[.string tx, .int .i64 nu] 43)) ∧ Blk (wr.alloc (.cells #[.string tx, .int .i64 nu] 43)) BX TC 39 ∧ u5.ownBlock ≠ some BX) := ⟨HROW.out.1.later (bnew _ _), bto hbel (bnew _ _), HROW.out.2.2.later (bnew _ _), HROW.out.2.1⟩
              clear hs3 hs4 hgv hgv1 hgv2 gv
              go_upto_region 15 with fail
              generalize wr.alloc (.cells #[.string tx, .int .i64 nu] 43) = W at *
              have x0 : W.cell? ⟨wr.heap.size, 0, none⟩ = some (.string tx) := HBX.out.cell 0
              have x1 : W.cell? ⟨wr.heap.size, 1, none⟩ = some (.int .i64 nu) := HBX.out.cell 1
              have hBX2 : wr.heap.size < W.heap.size := lt_of_block HBX.out
              have hBXW : BX < W.heap.size := lt_of_block HR2.out.2.2.1
              have hww : w.heap.size ≤ W.heap.size := HR2.out.2.1.size
              clear HROW HBX hnb hb2 f0 f1 hbel hsz hBW
              generalize wr.heap.size = BY at *
              clear wr
              have HKX : Hid (∀ w', Below W.heap.size W w' → w'.cell? ⟨BY, 0, none⟩ = some (.string tx) ∧ w'.cell? ⟨BY, 1, none⟩ = some (.int .i64 nu)) := fun w' h => ⟨(h.cell hBX2).trans x0, (h.cell hBX2).trans x1⟩
              go_region_held3 (fun w' => w'.cell? ⟨BY, 0, none⟩ = some (.string tx) ∧ w'.cell? ⟨BY, 1, none⟩ = some (.int .i64 nu))
                (first
                  | go_keep
                  | exact hkx5
                  | exact HKX.out _ hc2
                  | exact HKX.out _ hc1)
                ((first
                  | (go_at_call 31; refine (HS16.out _).mono ?_; rintro e w1 ⟨rfl, hb1⟩; have hc1 : Below W.heap.size W w1 := (Below.refl _ W).drew.trans hb1)
                  | (go_at_call 29; refine (HM8.out _).mono ?_; rintro e w2 ⟨rfl, hb2⟩; have hc2 : Below W.heap.size W w2 := hc1.trans (hb2.mono hc1.size))
                  | (have q := hc2; clear q; refine step_append_s2 _ (by rfl) _ _ (by rfl) w.heap.size _ st (U3 ++ U4) (by rfl) (by exact HR2.out.1.later hc2) (by rfl) (by have := hc2.size; omega) (by have := HQ2.out; rw [ByteArray.size_append]; omega) ?_; intro v5 w5 hrow5 hB5 hk5 hat5 hle5; have hblk5 : w5.heap[BX]? = w2.heap[BX]? := hk5 BX (by have := hc2.size; omega) HR2.out.2.2.2; have hbly5 : w5.heap[BY]? = w2.heap[BY]? := hk5 BY (by have := hc2.size; omega) HNB.out; have hkx5 : w5.cell? ⟨BY, 0, none⟩ = some (.string tx) ∧ w5.cell? ⟨BY, 1, none⟩ = some (.int .i64 nu) := (by have q := HKX.out _ hc2; exact ⟨(World.cell?_of_block hbly5).trans q.1, (World.cell?_of_block hbly5).trans q.2⟩); have hB5' : Below w.heap.size w w5 := (bto HR2.out.2.1 hc2).trans hB5)))
              have HO6 : Hid ((RowS w5 w.heap.size v5 (st ++ (U3 ++ U4)) ∧ v5.ownBlock ≠ some BX ∧ Blk w5 BX TC 39) ∧ Below w.heap.size w w5) := ⟨⟨hrow5, ne_block HR2.out.2.2.2 hat5 (by have := hc2.size; omega), hblk5.trans (HR2.out.2.2.1.later hc2)⟩, hB5'⟩
              have hst5 : (st ++ (U3 ++ U4)).size ≤ 200000000 + (k2 + 1) * 70000 := by have := HQ2.out; rw [ByteArray.size_append, ByteArray.size_append]; omega
              clear hrow5 hB5 hB5' hk5 hkx5 hat5 hle5 hblk5 hbly5 m1 hst
              generalize st ++ (U3 ++ U4) = st5 at *
              go_wp2
              exact ⟨⟨k2 + 1, st5, by omega, by go_num, hst5, E2.out, HB2.out, HO6.out.1, HO6.out.2⟩, by simp [intOf]; omega⟩
            · have E : Hid (SB = ByteArray.empty) := HNM.out k2 hlt2 hok2
              have hgt2 : (ms[k2].s.size : Int) > 65535 := by omega
              have hnb : ¬ b2 = wr.heap.size := by omega
              generalize ms[k2].s = tx at *
              generalize ms[k2].n = nu at *
              clear hok2 HALL HROW hr1
              go_wp2
              go_ret
              exact ⟨by rw [E.out]; rfl, bto hbel (bnew _ _)⟩
          · have hall1 : allP ms := fun j h => HALL.out j h (by omega)
            have E3 : Hid (st ++ S4 = st1 ++ encPs ms ++ S4) := by show _ = _; rw [HST.out, List.take_of_length_le (by omega)]
            have HAL : Hid (allP ms) := hall1
            have y3 : wr.cell? ⟨BX, 3, none⟩ = some (.slice a2 ss.length c2') := (HROW.out.2.2.cell 3).trans HT3.out
            have hkm : k2 ≤ 2000000 := by omega
            clear hall1 HALL HST
            go_wp2_with fail
            refine (HN5.out _).mono ?_
            rintro e w4 ⟨rfl, hb4⟩
            have hww : w.heap.size ≤ w4.heap.size := by have := hbel.size; have := hb4.size; omega
            have hBW : BX < w4.heap.size := by have := lt_of_block HROW.out.2.2; have := hb4.size; omega
            have HROW4 : Hid (RowS w4 w.heap.size u5 st ∧ u5.ownBlock ≠ some BX ∧ Blk w4 BX TC 39 ∧ Below w.heap.size w w4) := ⟨HROW.out.1.later hb4, HROW.out.2.1, HROW.out.2.2.later hb4, bto hbel hb4⟩
            clear hb4 HROW hbel y3
            go_wp2_with (at_builtin; refine wpList_append_s _ rfl _ _ rfl w.heap.size _ st S4 rfl HROW4.out.1 rfl hww (by have := HQ.out; omega) ?_; intro v5 w5 hrow5 hB5 hk5 hat5 hle5; have hblk5 : w5.heap[BX]? = w4.heap[BX]? := hk5 BX hBW HROW4.out.2.1; have y3 : w5.cell? ⟨BX, 3, none⟩ = some (.slice a2 ss.length c2') := (World.cell?_of_block hblk5).trans ((HROW4.out.2.2.1.cell 3).trans HT3.out))
            have HO5' : Hid ((RowS w5 w.heap.size v5 (st ++ S4) ∧ v5.ownBlock ≠ some BX ∧ Blk w5 BX TC 39) ∧ Below w.heap.size w w5) := ⟨⟨hrow5, ne_block HROW4.out.2.1 hat5 hBW, hblk5.trans HROW4.out.2.2.1⟩, HROW4.out.2.2.2.trans hB5⟩
            have hst2 : (st ++ S4).size ≤ 200000000000 := by have := HQ.out; rw [ByteArray.size_append]; omega
            clear HO5 hrow5 hB5 hk5 hat5 hle5 hblk5 HROW4 hst hst1 hkm HN5 hww hBW
            have HO5 := HO5'
            clear HO5'
            generalize st ++ S4 = st2 at *
            go_loopw [5, 83] (fun out i wr => ∃ (k2 : Nat) (st : ByteArray), k2 ≤ ss.length ∧ i = .int .i64 k2 ∧ st.size ≤ 200000000000 + k2 * 70000 ∧ Hid (st = st2 ++ encPs (ss.take k2)) ∧ Hid (∀ j (h : j < ss.length), j < k2 → ss[j].s.size ≤ 65535) ∧ Hid (RowS wr w.heap.size out st ∧ out.ownBlock ≠ some BX ∧ Blk wr BX TC 39) ∧ Below w.heap.size w wr) (fun _ i _ => ss.length - (intOf i).toNat)
            case atStart =>
              exact ⟨0, st2, Nat.zero_le _, rfl, by omega, by show _ = _; simp [encPs], fun j _ h => absurd h (by omega), HO5.out.1, HO5.out.2⟩
            case round =>
              obtain ⟨k2, st, hk2, rfl, hst, HST, HALL, HROW, hbel⟩ := hrel
              by_cases hlt2 : k2 < ss.length
              · obtain ⟨b2, o2, rfl, hb2, f0, f1⟩ := (P2.out.later hbel).at hlt2
                have hn1 := Q5.out k2 hlt2
                have hr1 := R3.out k2 hlt2
                by_cases hok2 : ss[k2].s.size ≤ 65535
                · have hgt2 : ¬ (ss[k2].s.size : Int) > 65535 := by omega
                  have HS16 : Hid (∀ W, Calls Tryz.prog 31 #[.string ss[k2].s] W fun e w' => e = .returned (.string (s16B ss[k2].s)) ∧ Below W.heap.size W w') := fun W => specS16_any ss[k2].s W hn1
                  have HM8 : Hid (∀ W, Calls Tryz.prog 29 #[.int .i64 8, .int .i64 ss[k2].n] W fun e w' => e = .returned (.string (numS 8 ss[k2].n)) ∧ Below W.heap.size W w') := fun W => specNum_any 8 _ W (by omega) hr1.1 hr1.2
                  have hs3 := s16B_size ss[k2].s
                  have hs4 := numS_size 8 ss[k2].n
                  have HB2 : Hid (∀ j (h : j < ss.length), j < k2 + 1 → ss[j].s.size ≤ 65535) := fun j h hj => by
                    rcases Nat.lt_or_ge j k2 with h1 | h1
                    · exact HALL.out j h h1
                    · obtain rfl : j = k2 := by omega
                      exact hok2
                  have E2 : Hid (st ++ (s16B ss[k2].s ++ numS 8 ss[k2].n) = st2 ++ encPs (ss.take (k2 + 1))) := by show _ = _; rw [encPs_take ss k2 hlt2, HST.out, encP, ByteArray.append_assoc]
                  clear hok2 HALL hr1
                  generalize s16B ss[k2].s = U3 at *
                  generalize numS 8 ss[k2].n = U4 at *
                  generalize ss[k2].s = tx at *
                  generalize ss[k2].n = nu at *
                  have m1 : ¬ (9223372036854775807 < U3.size + U4.size) := by omega
                  have HQ2 : Hid (U3.size = 2 + tx.size ∧ U4.size = 8) := ⟨hs3, hs4⟩
                  have hnb : ¬ b2 = wr.heap.size := by omega
                  have hsz := hbel.size
                  have hBW : BX < wr.heap.size := lt_of_block HROW.out.2.2
                  obtain ⟨gv, hgv, hgv1, hgv2⟩ := HROW.out.1.lt
                  have HNB : Hid (u5.ownBlock ≠ some wr.heap.size) := by show _ ≠ _; rw [hgv]; intro e; have := Option.some.inj e; omega
                  have HBX : Hid (Blk (wr.alloc (.cells #[.string tx, .int .i64 nu] 45)) wr.heap.size #[.string tx, .int .i64 nu] 45) := heap_alloc_new _ _
                  have HR2 : Hid (RowS (wr.alloc (.cells #[.string tx, .int .i64 nu] 45)) w.heap.size u5 st ∧ Below w.heap.size w (wr.alloc (.cells #[.string tx, .int .i64 nu] 45)) ∧ Blk (wr.alloc (.cells #[.string tx, .int .i64 nu] 45)) BX TC 39 ∧ u5.ownBlock ≠ some BX) := ⟨HROW.out.1.later (bnew _ _), bto hbel (bnew _ _), HROW.out.2.2.later (bnew _ _), HROW.out.2.1⟩
                  clear hs3 hs4 hgv hgv1 hgv2 gv
                  go_upto_region 23 with fail
                  generalize wr.alloc (.cells #[.string tx, .int .i64 nu] 45) = W at *
                  have x0 : W.cell? ⟨wr.heap.size, 0, none⟩ = some (.string tx) := HBX.out.cell 0
                  have x1 : W.cell? ⟨wr.heap.size, 1, none⟩ = some (.int .i64 nu) := HBX.out.cell 1
                  have hBX2 : wr.heap.size < W.heap.size := lt_of_block HBX.out
                  have hBXW : BX < W.heap.size := lt_of_block HR2.out.2.2.1
                  have hww : w.heap.size ≤ W.heap.size := HR2.out.2.1.size
                  clear HROW HBX hnb hb2 f0 f1 hbel hsz hBW
                  generalize wr.heap.size = BY at *
                  clear wr
                  have HKX : Hid (∀ w', Below W.heap.size W w' → w'.cell? ⟨BY, 0, none⟩ = some (.string tx) ∧ w'.cell? ⟨BY, 1, none⟩ = some (.int .i64 nu)) := fun w' h => ⟨(h.cell hBX2).trans x0, (h.cell hBX2).trans x1⟩
                  go_region_held3 (fun w' => w'.cell? ⟨BY, 0, none⟩ = some (.string tx) ∧ w'.cell? ⟨BY, 1, none⟩ = some (.int .i64 nu))
                    (first
                      | go_keep
                      | exact hkx5
                      | exact HKX.out _ hc2
                      | exact HKX.out _ hc1)
                    ((first
                      | (go_at_call 31; refine (HS16.out _).mono ?_; rintro e w1 ⟨rfl, hb1⟩; have hc1 : Below W.heap.size W w1 := (Below.refl _ W).drew.trans hb1)
                      | (go_at_call 29; refine (HM8.out _).mono ?_; rintro e w2 ⟨rfl, hb2⟩; have hc2 : Below W.heap.size W w2 := hc1.trans (hb2.mono hc1.size))
                      | (have q := hc2; clear q; refine step_append_s2 _ (by rfl) _ _ (by rfl) w.heap.size _ st (U3 ++ U4) (by rfl) (by exact HR2.out.1.later hc2) (by rfl) (by have := hc2.size; omega) (by have := HQ2.out; rw [ByteArray.size_append]; omega) ?_; intro v5 w5 hrow5 hB5 hk5 hat5 hle5; have hblk5 : w5.heap[BX]? = w2.heap[BX]? := hk5 BX (by have := hc2.size; omega) HR2.out.2.2.2; have hbly5 : w5.heap[BY]? = w2.heap[BY]? := hk5 BY (by have := hc2.size; omega) HNB.out; have hkx5 : w5.cell? ⟨BY, 0, none⟩ = some (.string tx) ∧ w5.cell? ⟨BY, 1, none⟩ = some (.int .i64 nu) := (by have q := HKX.out _ hc2; exact ⟨(World.cell?_of_block hbly5).trans q.1, (World.cell?_of_block hbly5).trans q.2⟩); have hB5' : Below w.heap.size w w5 := (bto HR2.out.2.1 hc2).trans hB5)))
                  have HO6 : Hid ((RowS w5 w.heap.size v5 (st ++ (U3 ++ U4)) ∧ v5.ownBlock ≠ some BX ∧ Blk w5 BX TC 39) ∧ Below w.heap.size w w5) := ⟨⟨hrow5, ne_block HR2.out.2.2.2 hat5 (by have := hc2.size; omega), hblk5.trans (HR2.out.2.2.1.later hc2)⟩, hB5'⟩
                  have hst5 : (st ++ (U3 ++ U4)).size ≤ 200000000000 + (k2 + 1) * 70000 := by have := HQ2.out; rw [ByteArray.size_append, ByteArray.size_append]; omega
                  clear hrow5 hB5 hB5' hk5 hkx5 hat5 hle5 hblk5 hbly5 m1 hst
                  generalize st ++ (U3 ++ U4) = st5 at *
                  go_wp2
                  exact ⟨⟨k2 + 1, st5, by omega, by go_num, hst5, E2.out, HB2.out, HO6.out.1, HO6.out.2⟩, by simp [intOf]; omega⟩
                · have E : Hid (SB = ByteArray.empty) := HNS.out k2 hlt2 hok2
                  have hgt2 : (ss[k2].s.size : Int) > 65535 := by omega
                  have hnb : ¬ b2 = wr.heap.size := by omega
                  generalize ss[k2].s = tx at *
                  generalize ss[k2].n = nu at *
                  clear hok2 HALL HROW hr1
                  go_wp2
                  go_ret
                  exact ⟨by rw [E.out]; rfl, bto hbel (bnew _ _)⟩
              · have hall2 : allP ss := fun j h => HALL.out j h (by omega)
                have E4 : Hid (st = HD ++ encTs (ts.take (k + 1))) := by
                  show _ = _
                  rw [HST.out, List.take_of_length_le (by omega), E3.out, HST1.out, HEQ.out]
                  simp only [ByteArray.append_assoc]
                have hst9 : st.size ≤ 100000024 := by rw [E4.out]; exact HLE.out
                clear HALL HST
                go_wp2
                exact ⟨⟨k + 1, st, by omega, by go_num, hst9, E4.out, HA2.out hok HAL.out hall2, HROW.out.1, hbel⟩, by simp [intOf]; omega⟩
      · have E : Hid (SB = ByteArray.empty) := HNN.out hok
        have hgt : (nm.size : Int) > 255 := by omega
        clear HROW
        go_wp2
        go_ret
        exact ⟨by rw [E.out]; rfl, bto hbel (bnew _ _)⟩
    · have hall : ∀ i (h : i < ts.length), tenOKb ts[i] := fun j h => HALL.out j h (by omega)
      have E2 : Hid (st = SX) := by
        show _ = _
        rw [HST.out, List.take_of_length_le (by omega), HX.out]
      have E3 : Hid (SB = SX ++ N4) := HOK.out hall
      have HBK : Hid (∀ w', Below wr.heap.size wr w' → (convert 62 9 u5).run Tryz.prog w' = .ok (.string SX) w') := fun w' h => by
        have := back_s (HROW.out.later h)
        rw [E2.out] at this
        exact this
      have hbk := HBK.out wr (Below.refl _ _)
      have n1 : ¬ (9223372036854775807 < SX.size + N4.size) := by omega
      clear HROW hall HALL HST E2 hst hzx hz4
      go_upto_region 26 with fail
      go_region_held3 (fun w' => (convert 62 9 u5).run Tryz.prog w' = .ok (.string SX) w')
        (first | go_keep | exact HBK.out _ k4 | exact HBK.out _ (Below.refl _ _).drew | exact HBK.out _ (Below.refl _ _))
        (first
          | (go_at_call 32; refine (HCR.out _).mono ?_; rintro e w3 ⟨rfl, hb3⟩; subst hb3; have k3 : Below wr.heap.size wr wr.drew := (Below.refl _ _).drew)
          | (go_at_call 29; refine (HU4.out _).mono ?_; rintro e w4 ⟨rfl, hb4⟩; have k4 : Below wr.heap.size wr w4 := (by exact bto k3 hb4)))
      have B4 : Hid (Below w.heap.size w w4) := bto hbel k4
      go_wp2
      go_ret
      exact ⟨by rw [E3.out]; rfl, B4.out⟩
end Go.Proofs.YtoecnlhnfhongaaGreatDoor

