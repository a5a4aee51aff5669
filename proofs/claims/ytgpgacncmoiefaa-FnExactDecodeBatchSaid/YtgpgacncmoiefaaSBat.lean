import Derived.Test.YtgpgacncmoiefaaProg
import Derived.Test.YtgpgacncmoiefaaBatL
import Derived.Test.YtgpgacncmoiefaaBlkN
import Derived.Test.YtgpgacncmoiefaaBtw
import Derived.Test.YtgpgacncmoiefaaSS8
import Derived.Test.YtgpgacncmoiefaaAppS
import Derived.Deep.RegionHeld3
import Derived.Deep.DeepCutAuto
namespace Go.Proofs.Ytgpgacncmoiefaa
open Go.RowKit

theorem btw_dec (x lo hi : Int) : btwB x lo hi = decide (lo ≤ x ∧ x ≤ hi) := by
  unfold btwB
  by_cases h1 : lo ≤ x <;> by_cases h2 : x ≤ hi <;> simp [h1, h2]
theorem bempty' {x : ByteArray} : (x.toList == []) = decide (x.size = 0) := by
  rw [ByteArray.toList_eq]
  cases h : x.data.toList with
  | nil =>
    have h2 : x.size = 0 := by have : x.data.toList.length = 0 := by rw [h]; rfl
                               simpa using this
    simp [h2]
  | cons a l =>
    have h2 : x.size ≠ 0 := by have : x.data.toList.length = l.length + 1 := by rw [h]; rfl
                               simp at this; omega
    simp [h2]

set_option maxRecDepth 100000 in
set_option maxHeartbeats 2000000 in
theorem specRec_any (ki nu : Int) (te tx : ByteArray) (w : World) (h1 : te.size ≤ 1000000000) (h2 : tx.size ≤ 1000000000) :
    Calls Try.prog 42 #[.agg #[.int .i64 ki, .string te, .string tx, .int .i64 nu]] w fun e w' => e = .returned (.bool (rcB ⟨ki, te, tx, nu⟩)) ∧ Below w.heap.size w w' := by
  by_cases z1 : te.size > 255
  · have E : Hid (rcB ⟨ki, te, tx, nu⟩ = false) := hid (rcB_f fun h => by have := h.1; simp only at this; omega)
    have z1' : (te.size : Int) > 255 := by omega
    go_enter Try.func42, Try.ntmps42
    go_wp2
    go_ret
    exact ⟨ret_bool E.out.symm, bnew _ _⟩
  have z1' : ¬ (te.size : Int) > 255 := by omega
  by_cases z2 : tx.size > 65535
  · have E : Hid (rcB ⟨ki, te, tx, nu⟩ = false) := hid (rcB_f fun h => by have := h.2.1; simp only at this; omega)
    have z2' : (tx.size : Int) > 65535 := by omega
    go_enter Try.func42, Try.ntmps42
    go_wp2
    go_ret
    exact ⟨ret_bool E.out.symm, bnew _ _⟩
  have z2' : ¬ (tx.size : Int) > 65535 := by omega
  by_cases k1 : ki = 1
  · subst k1
    have E : Hid (rcB ⟨1, te, tx, nu⟩ = (nu == 0)) := hid (by
      by_cases h : nu = 0
      · rw [rcB_t (show recOK ⟨1, te, tx, nu⟩ from ⟨by simp only; omega, by simp only; omega, Or.inl ⟨rfl, h⟩⟩)]; simp [h]
      · rw [rcB_f (show ¬ recOK ⟨1, te, tx, nu⟩ from fun hh => hh.2.2.elim (fun g => h g.2) (fun g => g.elim (fun g => absurd g.1 (show ¬ (1 : Int) = 2 by decide)) (fun g => absurd g (show ¬ (1 : Int) = 3 by decide))))]; simp [h])
    go_enter Try.func42, Try.ntmps42
    go_wp2
    go_ret
    exact ⟨ret_bool E.out.symm, bnew _ _⟩
  by_cases k2 : ki = 2
  · subst k2
    by_cases he : te.size = 0
    · have E : Hid (rcB ⟨2, te, tx, nu⟩ = (tx.toList == [])) := hid (by
        rw [bempty']
        by_cases h : tx.size = 0
        · rw [rcB_t (show recOK ⟨2, te, tx, nu⟩ from ⟨by simp only; omega, by simp only; omega, Or.inr (Or.inl ⟨rfl, he, h⟩)⟩), decide_eq_true h]
        · rw [rcB_f (show ¬ recOK ⟨2, te, tx, nu⟩ from fun hh => hh.2.2.elim (fun g => absurd g.1 (show ¬ (2 : Int) = 1 by decide)) (fun g => g.elim (fun g => h g.2.2) (fun g => absurd g (show ¬ (2 : Int) = 3 by decide)))), decide_eq_false h])
      have hd : (te.toList == []) = true := by rw [bempty']; exact decide_eq_true he
      have hde : te.toList.isEmpty = true := by simpa using hd
      clear he z1 z2
      go_enter Try.func42, Try.ntmps42
      go_wp2
      go_ret
      exact ⟨ret_bool (by rw [E.out]; first | rfl | simp), bnew _ _⟩
    · have E : Hid (rcB ⟨2, te, tx, nu⟩ = false) := hid (rcB_f fun hh => hh.2.2.elim (fun g => absurd g.1 (show ¬ (2 : Int) = 1 by decide)) (fun g => g.elim (fun g => he g.2.1) (fun g => absurd g (show ¬ (2 : Int) = 3 by decide))))
      have hd : (te.toList == []) = false := by rw [bempty']; exact decide_eq_false he
      have hde : te.toList.isEmpty = false := by simpa using hd
      clear he z1 z2
      go_enter Try.func42, Try.ntmps42
      go_wp2
      go_ret
      exact ⟨ret_bool E.out.symm, bnew _ _⟩
  by_cases k3 : ki = 3
  · subst k3
    have E : Hid (rcB ⟨3, te, tx, nu⟩ = true) := hid (rcB_t ⟨by simp only; omega, by simp only; omega, Or.inr (Or.inr rfl)⟩)
    go_enter Try.func42, Try.ntmps42
    go_wp2
    go_ret
    exact ⟨ret_bool E.out.symm, bnew _ _⟩
  have E : Hid (rcB ⟨ki, te, tx, nu⟩ = false) := hid (rcB_f fun hh => hh.2.2.elim (fun g => k1 g.1) (fun g => g.elim (fun g => k2 g.1) (fun g => k3 g)))
  go_enter Try.func42, Try.ntmps42
  go_wp2
  go_ret
  exact ⟨ret_bool E.out.symm, bnew _ _⟩

def BigRs (rs : List RecD) : Prop := ∀ i (h : i < rs.length), rs[i].tenant.size ≤ 1000000000 ∧ rs[i].text.size ≤ 1000000000

/-- The conversion, as a word of its own: the walk leaves it to the law. -/
def cvOp : Op := Op.convert 9 65 (Operand.tmp 24)

set_option maxRecDepth 100000 in
set_option maxHeartbeats 4000000 in
theorem specBat_any (lsn : Int) (a : Option Addr) (cap : Nat) (rs : List RecD) (w : World) (hf : RecsIn w a rs) (hB : BigRs rs) (hR : RngR rs) (hlsn : I64 lsn) (hlen : rs.length ≤ 2000000) :
    Calls Try.prog 19 #[.agg #[.int .i64 lsn, .slice a rs.length cap]] w fun e w' => e = .returned (.string (batB lsn rs)) ∧ Below w.heap.size w w' := by
  have HW1 : Hid (∀ W, Calls Try.prog 34 #[.int .i64 lsn, .int .i64 1, .int .i64 1000000000000000] W fun e w' => e = .returned (.bool (decide (1 ≤ lsn ∧ lsn ≤ 1000000000000000))) ∧ w' = W) := fun W => by have := between_any lsn 1 1000000000000000 W; rw [btw_dec] at this; exact this
  have HW2 : Hid (∀ W, Calls Try.prog 34 #[.int .i64 (rs.length : Nat), .int .i64 1, .int .i64 500] W fun e w' => e = .returned (.bool (decide (1 ≤ ((rs.length : Nat) : Int) ∧ ((rs.length : Nat) : Int) ≤ 500))) ∧ w' = W) := fun W => by have := between_any (rs.length : Nat) 1 500 W; rw [btw_dec] at this; exact this
  by_cases c1 : ¬ (1 ≤ lsn ∧ lsn ≤ 1000000000000000)
  · have E : Hid (batB lsn rs = ByteArray.empty) := batB_no fun h => c1 ⟨h.1, h.2.1⟩
    rw [E.out]
    rw [show decide (1 ≤ lsn ∧ lsn ≤ 1000000000000000) = false from decide_eq_false c1] at HW1
    clear hf hB c1 hR hlsn
    go_enter Try.func19, Try.ntmps19
    go_wp2_with fail
    refine (HW1.out _).mono ?_
    rintro e w1 ⟨rfl, hw⟩
    replace hw := hw.symm
    subst hw
    go_wp2
    go_ret
    exact ⟨rfl, bnew _ _⟩
  replace c1 := Classical.not_not.1 c1
  rw [decide_eq_true c1] at HW1
  by_cases c3 : ¬ (1 ≤ ((rs.length : Nat) : Int) ∧ ((rs.length : Nat) : Int) ≤ 500)
  · have E : Hid (batB lsn rs = ByteArray.empty) := batB_no fun h => c3 ⟨by have := h.2.2.1; omega, by have := h.2.2.2.1; omega⟩
    rw [E.out]
    rw [decide_eq_false c3] at HW2
    clear hf hB c1 c3 hR hlsn
    go_enter Try.func19, Try.ntmps19
    go_wp2_with fail
    refine (HW1.out _).mono ?_
    rintro e w1 ⟨rfl, hw⟩
    replace hw := hw.symm
    subst hw
    go_wp2_with fail
    refine (HW2.out _).mono ?_
    rintro e w1 ⟨rfl, hw⟩
    replace hw := hw.symm
    subst hw
    go_wp2
    go_ret
    exact ⟨rfl, bnew _ _⟩
  replace c3 := Classical.not_not.1 c3
  rw [decide_eq_true c3] at HW2
  have HF : Hid (RecsIn w a rs) := hf
  have HB : Hid (BigRs rs) := hB
  have HR : Hid (RngR rs) := hR
  have HU64 : Hid (∀ W, Calls Try.prog 35 #[.int .i64 8, .int .i64 lsn] W fun e w' => e = .returned (.string (numS 8 lsn)) ∧ Below W.heap.size W w') := fun W => specNum_any 8 lsn W (by omega) hlsn.1 hlsn.2
  have HU16 : Hid (∀ W, Calls Try.prog 35 #[.int .i64 2, .int .i64 (rs.length : Nat)] W fun e w' => e = .returned (.string (numS 2 (rs.length : Nat))) ∧ Below W.heap.size W w') := fun W => specNum_any 2 (rs.length : Nat) W (by omega) (by omega) (by omega)
  have hz8 := numS_size 8 lsn
  have hz2 := numS_size 2 (rs.length : Nat)
  have HKB : Hid (batOK lsn rs → batB lsn rs = numS 8 lsn ++ numS 2 (rs.length : Nat) ++ encRs rs) := fun h => batB_ok h
  have HOK : Hid (allR rs → batOK lsn rs) := fun h => ⟨by omega, by omega, by omega, by omega, h⟩
  generalize numS 8 lsn = N8 at *
  generalize numS 2 (rs.length : Nat) = N2 at *
  have hz10 : (N8 ++ N2).size = 10 := by rw [ByteArray.size_append, hz8, hz2]
  obtain ⟨CV, CN, hcv, hcn⟩ := conv_fun (N8 ++ N2) (by omega)
  have HCN : Hid (∀ w, RowS (CN w) w.heap.size (CV w) (N8 ++ N2) ∧ Below w.heap.size w (CN w)) := hcn
  clear hf hB hR hlsn hcn
  go_enter Try.func19, Try.ntmps19
  go_wp2_with fail
  refine (HW1.out _).mono ?_
  rintro e w1 ⟨rfl, hw⟩
  replace hw := hw.symm
  subst hw
  go_wp2_with fail
  refine (HW2.out _).mono ?_
  rintro e w1 ⟨rfl, hw⟩
  replace hw := hw.symm
  subst hw
  clear HW1 HW2
  go_upto_region 3 with fail
  have X6 : Hid (Blk (w.alloc (.cells #[.int .i64 lsn, .slice a rs.length cap] 37)) w.heap.size #[.int .i64 lsn, .slice a rs.length cap] 37) := Blk.new _ _ _
  have B0 : Hid (Below w.heap.size w (w.alloc (.cells #[.int .i64 lsn, .slice a rs.length cap] 37))) := bnew _ _
  generalize w.alloc (.cells #[.int .i64 lsn, .slice a rs.length cap] 37) = w0 at *
  have HK : Hid (∀ w', Below w0.heap.size w0 w' → w'.cell? ⟨w.heap.size, 0, none⟩ = some (.int .i64 lsn) ∧ w'.cell? ⟨w.heap.size, 1, none⟩ = some (.slice a rs.length cap)) := fun w' h => by
    have q := X6.out.later h
    exact ⟨q.cell 0, q.cell 1⟩
  obtain ⟨x0, x1⟩ := HK.out w0 (Below.refl _ _)
  go_cut [3] (fun s wx => RowS wx w0.heap.size s (N8 ++ N2) ∧ Below w0.heap.size w0 wx)
  case first =>
    rw [show Op.convert 9 65 (Operand.tmp 24) = cvOp from rfl]
    have hop : cvOp = Op.convert 9 65 (Operand.tmp 24) := rfl
    go_region_held3 (fun w' => w'.cell? ⟨w.heap.size, 0, none⟩ = some (.int .i64 lsn) ∧ w'.cell? ⟨w.heap.size, 1, none⟩ = some (.slice a rs.length cap))
      (first | go_keep | exact HK.out _ (bto k4 (HCN.out _).2) | exact HK.out _ k4 | exact HK.out _ k3)
      (first
        | (go_at_call 35; (fail_if_success (have q := k3)); refine (HU64.out _).mono ?_; rintro e w3 ⟨rfl, hb3⟩; have k3 : Below w0.heap.size w0 w3 := (by exact bto (Below.refl _ _).drew hb3))
        | (go_at_call 35; have q := k3; clear q; refine (HU16.out _).mono ?_; rintro e w4 ⟨rfl, hb4⟩; have k4 : Below w0.heap.size w0 w4 := (by exact bto k3 hb4)))
    all_goals (go_wp2_with fail; go_meet)
    all_goals exact ⟨(HCN.out _).1.mono k4.size, bto k4 (HCN.out _).2⟩
  obtain ⟨hrow0, hbx⟩ := hcut
  rename World => w5
  have B5 : Hid (Below w.heap.size w w5) := bto B0.out hbx
  have HBL : Hid (RowS w5 w.heap.size u3 (N8 ++ N2)) := hrow0.mono B0.out.size
  have HK5 : Hid (∀ w', Below w5.heap.size w5 w' → w'.cell? ⟨w.heap.size, 0, none⟩ = some (.int .i64 lsn) ∧ w'.cell? ⟨w.heap.size, 1, none⟩ = some (.slice a rs.length cap)) := fun w' h => HK.out w' (bto hbx h)
  obtain ⟨y0, y1⟩ := HK5.out w5 (Below.refl _ _)
  clear x0 x1 HK X6 hrow0 hbx B0 HU64 HU16 HK5 HCN hcv
  go_wp2
  go_loopw [3, 5, 29] (fun out _ i wr => ∃ (k : Nat) (st : ByteArray), k ≤ rs.length ∧ i = .int .i64 k ∧ st.size ≤ 10 + k * 3000000000 ∧ Hid (st = N8 ++ N2 ++ encRs (rs.take k)) ∧ Hid (∀ j (h : j < rs.length), j < k → recOK rs[j]) ∧ Hid (RowS wr w.heap.size out st) ∧ Below w.heap.size w wr) (fun _ _ i _ => rs.length - (intOf i).toNat)
  case atStart =>
    exact ⟨0, N8 ++ N2, Nat.zero_le _, rfl, by omega, by show _ = _; simp [encRs], fun j _ h => absurd h (by omega), HBL.out, B5.out⟩
  case round =>
    obtain ⟨k, st, hk, rfl, hst, HST, HALL, HROW, hbel⟩ := hrel
    by_cases hlt : k < rs.length
    · obtain ⟨b, o, rfl, hb, c0, c1, c2, c3⟩ := (HF.out.later hbel).at hlt
      obtain ⟨hn1, hn2⟩ := HB.out k hlt
      obtain ⟨hr1, hr2⟩ := HR.out k hlt
      have HEN : Hid (∀ W, Calls Try.prog 42 #[.agg #[.int .i64 rs[k].kind, .string rs[k].tenant, .string rs[k].text, .int .i64 rs[k].num]] W fun e w' => e = .returned (.bool (rcB rs[k])) ∧ Below W.heap.size W w') := fun W => specRec_any _ _ _ _ W hn1 hn2
      by_cases hok : recOK rs[k]
      · rw [rcB_t hok] at HEN
        have HK1 : Hid (∀ W, Calls Try.prog 35 #[.int .i64 1, .int .i64 rs[k].kind] W fun e w' => e = .returned (.string (numS 1 rs[k].kind)) ∧ Below W.heap.size W w') := fun W => specNum_any 1 _ W (by omega) hr1.1 hr1.2
        have HS8 : Hid (∀ W, Calls Try.prog 43 #[.string rs[k].tenant] W fun e w' => e = .returned (.string (s8B rs[k].tenant)) ∧ Below W.heap.size W w') := fun W => specS8_any rs[k].tenant W hn1
        have HS16 : Hid (∀ W, Calls Try.prog 44 #[.string rs[k].text] W fun e w' => e = .returned (.string (s16B rs[k].text)) ∧ Below W.heap.size W w') := fun W => specS16_any rs[k].text W hn2
        have HN8 : Hid (∀ W, Calls Try.prog 35 #[.int .i64 8, .int .i64 rs[k].num] W fun e w' => e = .returned (.string (numS 8 rs[k].num)) ∧ Below W.heap.size W w') := fun W => specNum_any 8 _ W (by omega) hr2.1 hr2.2
        have hq1 := numS_size 1 rs[k].kind
        have hq2 := s8B_size rs[k].tenant
        have hq3 := s16B_size rs[k].text
        have hq4 := numS_size 8 rs[k].num
        have HA2 : Hid (∀ j (h : j < rs.length), j < k + 1 → recOK rs[j]) := fun j h hj => by
          rcases Nat.lt_or_ge j k with h1 | h1
          · exact HALL.out j h h1
          · obtain rfl : j = k := by omega
            exact hok
        have HT := encRs_take rs k hlt
        have E2 : Hid (st ++ (numS 1 rs[k].kind ++ s8B rs[k].tenant ++ s16B rs[k].text ++ numS 8 rs[k].num) = N8 ++ N2 ++ encRs (rs.take (k + 1))) := by show _ = _; rw [HT, HST.out, encR, ByteArray.append_assoc]
        clear HT hok HALL hr1 hr2
        generalize numS 1 rs[k].kind = S1 at *
        generalize s8B rs[k].tenant = S2 at *
        generalize s16B rs[k].text = S3 at *
        generalize numS 8 rs[k].num = S4 at *
        generalize rs[k].kind = ki at *
        generalize rs[k].tenant = te at *
        generalize rs[k].text = tx at *
        generalize rs[k].num = nu at *
        have hq5 : (S1 ++ S2).size = S1.size + S2.size := ByteArray.size_append
        have hq6 : (S1 ++ S2 ++ S3).size = S1.size + S2.size + S3.size := by rw [ByteArray.size_append, hq5]
        have hq7 : (S1 ++ S2 ++ S3 ++ S4).size = S1.size + S2.size + S3.size + S4.size := by rw [ByteArray.size_append, hq6]
        have hq8 : (st ++ (S1 ++ S2 ++ S3 ++ S4)).size = st.size + (S1.size + S2.size + S3.size + S4.size) := by rw [ByteArray.size_append, hq7]
        have n1 : ¬ (9223372036854775807 < S1.size + S2.size) := by omega
        have n2 : ¬ (9223372036854775807 < S1.size + S2.size + S3.size) := by omega
        have n3 : ¬ (9223372036854775807 < S1.size + S2.size + S3.size + S4.size) := by omega
        have HQ : Hid (S1.size = 1 ∧ S2.size = 1 + te.size ∧ S3.size = 2 + tx.size ∧ S4.size = 8) := ⟨hq1, hq2, hq3, hq4⟩
        clear hq1 hq2 hq3 hq4
        have hnb : ¬ b = wr.heap.size := by omega
        have hsz := hbel.size
        obtain ⟨gv, hgv, hgv1, hgv2⟩ := HROW.out.lt
        have HBX : Hid (Blk (wr.alloc (.cells #[.int .i64 ki, .string te, .string tx, .int .i64 nu] 67)) wr.heap.size #[.int .i64 ki, .string te, .string tx, .int .i64 nu] 67 ∧ Below wr.heap.size wr (wr.alloc (.cells #[.int .i64 ki, .string te, .string tx, .int .i64 nu] 67))) := ⟨heap_alloc_new _ _, bnew _ _⟩
        have HR2 : Hid (RowS (wr.alloc (.cells #[.int .i64 ki, .string te, .string tx, .int .i64 nu] 67)) w.heap.size u3 st ∧ Below w.heap.size w (wr.alloc (.cells #[.int .i64 ki, .string te, .string tx, .int .i64 nu] 67))) := ⟨HROW.out.later (bnew _ _), bto hbel (bnew _ _)⟩
        go_wp2_with fail
        refine (HEN.out _).mono ?_
        rintro e W ⟨rfl, hbW⟩
        have HBX' : Hid (Blk W wr.heap.size #[.int .i64 ki, .string te, .string tx, .int .i64 nu] 67) := HBX.out.1.later hbW
        have HR2' : Hid (RowS W w.heap.size u3 st ∧ Below w.heap.size w W) := ⟨HR2.out.1.later hbW, bto HR2.out.2 hbW⟩
        have x0 : W.cell? ⟨wr.heap.size, 0, none⟩ = some (.int .i64 ki) := HBX'.out.cell 0
        have x1 : W.cell? ⟨wr.heap.size, 1, none⟩ = some (.string te) := HBX'.out.cell 1
        have x2 : W.cell? ⟨wr.heap.size, 2, none⟩ = some (.string tx) := HBX'.out.cell 2
        have x3 : W.cell? ⟨wr.heap.size, 3, none⟩ = some (.int .i64 nu) := HBX'.out.cell 3
        have hBX : wr.heap.size < W.heap.size := lt_of_block HBX'.out
        have hww : w.heap.size ≤ W.heap.size := HR2'.out.2.size
        have hngv : gv ≠ wr.heap.size := by omega
        have HGV : Hid (u3.ownBlock = some gv) := hgv
        clear HROW HBX HBX' HR2 hnb hb c0 c1 c2 c3 hbel hsz hbW HEN hgv hgv1 hgv2
        go_wp2_with fail
        generalize wr.heap.size = BX at *
        clear wr
        have HKX : Hid (∀ w', Below W.heap.size W w' → w'.cell? ⟨BX, 0, none⟩ = some (.int .i64 ki) ∧ w'.cell? ⟨BX, 1, none⟩ = some (.string te) ∧ w'.cell? ⟨BX, 2, none⟩ = some (.string tx) ∧ w'.cell? ⟨BX, 3, none⟩ = some (.int .i64 nu)) := fun w' h => ⟨(h.cell hBX).trans x0, (h.cell hBX).trans x1, (h.cell hBX).trans x2, (h.cell hBX).trans x3⟩
        go_region_held3 (fun w' => w'.cell? ⟨BX, 0, none⟩ = some (.int .i64 ki) ∧ w'.cell? ⟨BX, 1, none⟩ = some (.string te) ∧ w'.cell? ⟨BX, 2, none⟩ = some (.string tx) ∧ w'.cell? ⟨BX, 3, none⟩ = some (.int .i64 nu))
          (first
            | go_keep
            | exact hkx5
            | exact HKX.out _ hc4
            | exact HKX.out _ hc3
            | exact HKX.out _ hc2
            | exact HKX.out _ hc1)
          ((first
            | (go_at_call 35; (fail_if_success (have q := hc1)); refine (HK1.out _).mono ?_; rintro e w1 ⟨rfl, hb1⟩; have hc1 : Below W.heap.size W w1 := (Below.refl _ W).drew.trans hb1)
            | (go_at_call 43; refine (HS8.out _).mono ?_; rintro e w2 ⟨rfl, hb2⟩; have hc2 : Below W.heap.size W w2 := hc1.trans (hb2.mono hc1.size))
            | (go_at_call 44; refine (HS16.out _).mono ?_; rintro e w3 ⟨rfl, hb3⟩; have hc3 : Below W.heap.size W w3 := hc2.trans (hb3.mono hc2.size))
            | (go_at_call 35; have q := hc3; clear q; refine (HN8.out _).mono ?_; rintro e w4 ⟨rfl, hb4⟩; have hc4 : Below W.heap.size W w4 := hc3.trans (hb4.mono hc3.size))
            | (have q := hc4; clear q; refine step_append_s _ (by rfl) _ _ (by rfl) w.heap.size _ st (S1 ++ S2 ++ S3 ++ S4) (by rfl) (by exact HR2'.out.1.later hc4) (by rfl) (by have := hc4.size; omega) (by have := HQ.out; omega) ?_; intro v5 w5 hrow5 hB5 hk5; have hkx5 : w5.cell? ⟨BX, 0, none⟩ = some (.int .i64 ki) ∧ w5.cell? ⟨BX, 1, none⟩ = some (.string te) ∧ w5.cell? ⟨BX, 2, none⟩ = some (.string tx) ∧ w5.cell? ⟨BX, 3, none⟩ = some (.int .i64 nu) := (by have q := HKX.out _ hc4; have hne := hk5 BX (by have := hc4.size; omega) (fun e => hngv (Option.some.inj (HGV.out.symm.trans e))); exact ⟨(World.cell?_of_block hne).trans q.1, (World.cell?_of_block hne).trans q.2.1, (World.cell?_of_block hne).trans q.2.2.1, (World.cell?_of_block hne).trans q.2.2.2⟩); have hB5' : Below w.heap.size w w5 := (bto HR2'.out.2 hc4).trans hB5)))
        have HO5 : Hid (RowS w5 w.heap.size v5 (st ++ (S1 ++ S2 ++ S3 ++ S4)) ∧ Below w.heap.size w w5) := ⟨hrow5, hB5'⟩
        clear hrow5 hB5 hB5' hk5 hkx5
        have hst5 : (st ++ (S1 ++ S2 ++ S3 ++ S4)).size ≤ 10 + (k + 1) * 3000000000 := by have := HQ.out; omega
        clear hq5 hq6 hq7 hq8 n1 n2 n3
        generalize st ++ (S1 ++ S2 ++ S3 ++ S4) = st5 at *
        go_wp2
        exact ⟨⟨k + 1, st5, by omega, by go_num, hst5, E2.out, HA2.out, HO5.out.1, HO5.out.2⟩, by simp [intOf]; omega⟩
      · have E : Hid (batB lsn rs = ByteArray.empty) := allR_no hlt hok lsn
        rw [rcB_f hok] at HEN
        generalize rs[k].kind = ki at *
        generalize rs[k].tenant = te at *
        generalize rs[k].text = tx at *
        generalize rs[k].num = nu at *
        clear hok HALL HROW
        go_wp2_with fail
        refine (HEN.out _).mono ?_
        rintro e W ⟨rfl, hbW⟩
        have BW : Hid (Below w.heap.size w W) := bto (bto hbel (bnew _ _)) hbW
        clear hbW HEN
        go_wp2
        go_ret
        exact ⟨by rw [E.out]; rfl, BW.out⟩
    · have hall : allR rs := fun j h => HALL.out j h (by omega)
      have E2 : Hid (st = batB lsn rs) := by
        show _ = _
        rw [HST.out, List.take_of_length_le (by omega), HKB.out (HOK.out hall)]
      have hbk := back_s HROW.out
      rw [E2.out] at hbk
      clear HROW hall
      go_wp2
      go_ret
      exact ⟨rfl, hbel⟩
end Go.Proofs.Ytgpgacncmoiefaa
