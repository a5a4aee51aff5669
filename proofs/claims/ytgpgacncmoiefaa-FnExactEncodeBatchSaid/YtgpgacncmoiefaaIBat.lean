import Derived.Test.YtgpgacncmoiefaaProg
import Derived.Test.YtgpgacncmoiefaaIEncR
import Derived.Test.YtgpgacncmoiefaaJn
import Derived.Test.YtgpgacncmoiefaaAppA
import Derived.Deep.DeepCutAuto
namespace Go.Proofs.Ytgpgacncmoiefaa
open Go.RowKit

def BigR (rs : List RecD) : Prop := ∀ i (h : i < rs.length), rs[i].tenant.size ≤ 1000000000 ∧ rs[i].text.size ≤ 1000000000

theorem implU8i_any (v : Int) (w : World) : Calls Try.prog 49 #[.int .i64 v] w fun e w' => e = .returned (.string (numS 1 v)) ∧ Below w.heap.size w w' := by
  have HC : Hid (∀ W, Calls Try.prog 37 #[.int .i64 v, .int .i64 1] W fun e w' => e = .returned (.string (numS 1 v)) ∧ Below W.heap.size W w') := fun W => implHigh_any 1 v W (by omega)
  generalize numS 1 v = N at *
  go_enter Try.func49, Try.ntmps49
  go_wp2_with fail
  refine (HC.out _).mono ?_
  rintro e w1 ⟨rfl, hb1⟩
  have HB : Hid (Below w.heap.size w w1) := hb1
  clear hb1
  go_wp2
  go_ret
  exact ⟨rfl, HB.out⟩
theorem implU16_any (v : Int) (w : World) : Calls Try.prog 47 #[.int .i64 v] w fun e w' => e = .returned (.string (numS 2 v)) ∧ Below w.heap.size w w' := by
  have HC : Hid (∀ W, Calls Try.prog 37 #[.int .i64 v, .int .i64 2] W fun e w' => e = .returned (.string (numS 2 v)) ∧ Below W.heap.size W w') := fun W => implHigh_any 2 v W (by omega)
  generalize numS 2 v = N at *
  go_enter Try.func47, Try.ntmps47
  go_wp2_with fail
  refine (HC.out _).mono ?_
  rintro e w1 ⟨rfl, hb1⟩
  have HB : Hid (Below w.heap.size w w1) := hb1
  clear hb1
  go_wp2
  go_ret
  exact ⟨rfl, HB.out⟩
theorem implU64_any (v : Int) (w : World) : Calls Try.prog 46 #[.int .i64 v] w fun e w' => e = .returned (.string (numS 8 v)) ∧ Below w.heap.size w w' := by
  have HC : Hid (∀ W, Calls Try.prog 37 #[.int .i64 v, .int .i64 8] W fun e w' => e = .returned (.string (numS 8 v)) ∧ Below W.heap.size W w') := fun W => implHigh_any 8 v W (by omega)
  generalize numS 8 v = N at *
  go_enter Try.func46, Try.ntmps46
  go_wp2_with fail
  refine (HC.out _).mono ?_
  rintro e w1 ⟨rfl, hb1⟩
  have HB : Hid (Below w.heap.size w w1) := hb1
  clear hb1
  go_wp2
  go_ret
  exact ⟨rfl, HB.out⟩

def partsR (rs : List RecD) : List ByteArray := rs.flatMap fun r => [numS 1 r.kind, s8B r.tenant, s16B r.text, numS 8 r.num]
theorem partsR_take (rs : List RecD) (k : Nat) (h : k < rs.length) : partsR (rs.take (k + 1)) = partsR (rs.take k) ++ [numS 1 rs[k].kind, s8B rs[k].tenant, s16B rs[k].text, numS 8 rs[k].num] := by
  unfold partsR
  rw [List.take_succ_eq_append_getElem h, List.flatMap_append]
  rfl
theorem cat_partsR : ∀ (rs : List RecD), catB (partsR rs) = encRs rs
  | [] => rfl
  | r :: q => by
    have e : partsR (r :: q) = [numS 1 r.kind, s8B r.tenant, s16B r.text, numS 8 r.num] ++ partsR q := rfl
    rw [e, catB_append, cat_partsR q, encRs]
    simp [catB, encR, ByteArray.append_assoc]

set_option maxRecDepth 100000 in
set_option maxHeartbeats 4000000 in
theorem implBat_any (lsn : Int) (a : Option Addr) (cap : Nat) (rs : List RecD) (w : World) (hf : RecsIn w a rs) (hB : BigR rs) (hlen : rs.length ≤ 2000000) :
    Calls Try.prog 21 #[.agg #[.int .i64 lsn, .slice a rs.length cap]] w fun e w' => e = .returned (.string (batB lsn rs)) ∧ Below w.heap.size w w' := by
  by_cases c1 : lsn < 1
  · have E : Hid (batB lsn rs = ByteArray.empty) := batB_no fun h => by have := h.1; omega
    rw [E.out]
    clear hf hB
    go_enter Try.func21, Try.ntmps21
    go_wp2
    go_ret
    exact ⟨rfl, bnew _ _⟩
  by_cases c2 : lsn > 1000000000000000
  · have E : Hid (batB lsn rs = ByteArray.empty) := batB_no fun h => by have := h.2.1; omega
    rw [E.out]
    clear hf hB
    go_enter Try.func21, Try.ntmps21
    go_wp2
    go_ret
    exact ⟨rfl, bnew _ _⟩
  by_cases c3 : (rs.length : Int) < 1
  · have E : Hid (batB lsn rs = ByteArray.empty) := batB_no fun h => by have := h.2.2.1; omega
    rw [E.out]
    clear hf hB
    go_enter Try.func21, Try.ntmps21
    go_wp2
    go_ret
    exact ⟨rfl, bnew _ _⟩
  by_cases c4 : (rs.length : Int) > 500
  · have E : Hid (batB lsn rs = ByteArray.empty) := batB_no fun h => by have := h.2.2.2.1; omega
    rw [E.out]
    clear hf hB
    go_enter Try.func21, Try.ntmps21
    go_wp2
    go_ret
    exact ⟨rfl, bnew _ _⟩
  have HF : Hid (RecsIn w a rs) := hf
  have HB : Hid (BigR rs) := hB
  have HU64 : Hid (∀ W, Calls Try.prog 46 #[.int .i64 lsn] W fun e w' => e = .returned (.string (numS 8 lsn)) ∧ Below W.heap.size W w') := fun W => implU64_any lsn W
  have HU16 : Hid (∀ W, Calls Try.prog 47 #[.int .i64 (rs.length : Nat)] W fun e w' => e = .returned (.string (numS 2 (rs.length : Nat))) ∧ Below W.heap.size W w') := fun W => implU16_any (rs.length : Nat) W
  have hz8 := numS_size 8 lsn
  have hz2 := numS_size 2 (rs.length : Nat)
  have HKB : Hid (batOK lsn rs → batB lsn rs = numS 8 lsn ++ numS 2 (rs.length : Nat) ++ encRs rs) := fun h => batB_ok h
  have HOK : Hid (allR rs → batOK lsn rs) := fun h => ⟨by omega, by omega, by omega, by omega, h⟩
  generalize numS 8 lsn = N8 at *
  generalize numS 2 (rs.length : Nat) = N2 at *
  obtain ⟨ti, hti, ht0, ht1, ht2⟩ := info_strR
  have HI : Hid (Try.prog.info? 9 = some ti) := hti
  clear hf hB hti
  go_enter Try.func21, Try.ntmps21
  go_upto_region 3 with fail
  have X6 : Hid (Blk (w.alloc (.cells #[.int .i64 lsn, .slice a rs.length cap] 37)) w.heap.size #[.int .i64 lsn, .slice a rs.length cap] 37) := Blk.new _ _ _
  have B0 : Hid (Below w.heap.size w (w.alloc (.cells #[.int .i64 lsn, .slice a rs.length cap] 37))) := bnew _ _
  generalize w.alloc (.cells #[.int .i64 lsn, .slice a rs.length cap] 37) = w0 at *
  have HK : Hid (∀ w', Below w0.heap.size w0 w' → w'.cell? ⟨w.heap.size, 0, none⟩ = some (.int .i64 lsn) ∧ w'.cell? ⟨w.heap.size, 1, none⟩ = some (.slice a rs.length cap)) := fun w' h => by
    have q := X6.out.later h
    exact ⟨q.cell 0, q.cell 1⟩
  obtain ⟨x0, x1⟩ := HK.out w0 (Below.refl _ _)
  go_cut [3] (fun s wx => ∃ g, s = .slice (some ⟨g, 0, none⟩) 2 2 ∧ w0.heap.size ≤ g ∧ wx.heap[g]? = some (.cells #[.string N8, .string N2] 9 (0, 0)) ∧ Below w0.heap.size w0 wx)
  case first =>
    go_region_held3 (fun w' => w'.cell? ⟨w.heap.size, 0, none⟩ = some (.int .i64 lsn) ∧ w'.cell? ⟨w.heap.size, 1, none⟩ = some (.slice a rs.length cap))
      (first | go_keep | exact HK.out _ k4 | exact HK.out _ k3)
      (first
        | (go_at_call 46; refine (HU64.out _).mono ?_; rintro e w3 ⟨rfl, hb3⟩; have k3 : Below w0.heap.size w0 w3 := (by exact bto (Below.refl _ _).drew hb3))
        | (go_at_call 47; refine (HU16.out _).mono ?_; rintro e w4 ⟨rfl, hb4⟩; have k4 : Below w0.heap.size w0 w4 := (by exact bto k3 hb4)))
    all_goals (go_wp2_with fail; go_meet)
    all_goals exact ⟨_, rfl, k4.size, heap_alloc_new _ _, bto k4 (bnew _ _)⟩
  obtain ⟨g0, rfl, hg0, hblk0, hbx⟩ := hcut
  rename World => w5
  have B5 : Hid (Below w.heap.size w w5) := bto B0.out hbx
  have HBL : Hid (w5.heap[g0]? = some (.cells #[.string N8, .string N2] 9 (0, 0)) ∧ w.heap.size ≤ g0) := ⟨hblk0, Nat.le_trans B0.out.size hg0⟩
  have HK5 : Hid (∀ w', Below w5.heap.size w5 w' → w'.cell? ⟨w.heap.size, 0, none⟩ = some (.int .i64 lsn) ∧ w'.cell? ⟨w.heap.size, 1, none⟩ = some (.slice a rs.length cap)) := fun w' h => HK.out w' (bto hbx h)
  obtain ⟨y0, y1⟩ := HK5.out w5 (Below.refl _ _)
  clear x0 x1 HK X6 hblk0 hg0 hbx B0 HU64 HU16 HK5
  go_wp2
  go_loopw [3, 5, 37] (fun out _ i wr => ∃ (k : Nat) (ps : List ByteArray) (g cv : Nat), k ≤ rs.length ∧ i = .int .i64 k ∧ out = .slice (some ⟨g, 0, none⟩) ps.length cv ∧ ps.length ≤ 2 + 4 * k ∧ sumB ps ≤ 10 + k * 3000000000 ∧ Hid (ps = N8 :: N2 :: partsR (rs.take k)) ∧ Hid (∀ j (h : j < rs.length), j < k → recOK rs[j]) ∧ Hid (wr.ownsRow w.heap.size 9 1 (.slice (some ⟨g, 0, none⟩) ps.length cv) ps.length (ps.map Value.string)) ∧ Below w.heap.size w wr) (fun _ _ i _ => rs.length - (intOf i).toNat)
  case atStart =>
    exact ⟨0, [N8, N2], _, _, Nat.zero_le _, rfl, rfl, by simp, by simp [sumB]; omega, rfl, fun j _ h => absurd h (by omega), ⟨rfl, Or.inr ⟨g0, 2, _, rfl, HBL.out.2, HBL.out.1, Nat.le_refl _, by simp [maxLen], rfl, rfl⟩⟩, B5.out⟩
  case round =>
    obtain ⟨k, ps, g, cv, hk, rfl, rfl, hpl, hps, HPS, HALL, HROW, hbel⟩ := hrel
    by_cases hlt : k < rs.length
    · obtain ⟨b, o, rfl, hb, c0, c1, c2, c3⟩ := (HF.out.later hbel).at hlt
      obtain ⟨hn1, hn2⟩ := HB.out k hlt
      have HEN : Hid (∀ W, Calls Try.prog 48 #[.agg #[.int .i64 rs[k].kind, .string rs[k].tenant, .string rs[k].text, .int .i64 rs[k].num]] W fun e w' => e = .returned (.bool (rcB rs[k])) ∧ Below W.heap.size W w') := fun W => isEnc_any rs[k] W hn1 hn2
      by_cases hok : recOK rs[k]
      · rw [rcB_t hok] at HEN
        have HK1 : Hid (∀ W, Calls Try.prog 49 #[.int .i64 rs[k].kind] W fun e w' => e = .returned (.string (numS 1 rs[k].kind)) ∧ Below W.heap.size W w') := fun W => implU8i_any _ W
        have HS8 : Hid (∀ W, Calls Try.prog 50 #[.string rs[k].tenant] W fun e w' => e = .returned (.string (s8B rs[k].tenant)) ∧ Below W.heap.size W w') := fun W => implS8_any rs[k].tenant W hn1
        have HS16 : Hid (∀ W, Calls Try.prog 51 #[.string rs[k].text] W fun e w' => e = .returned (.string (s16B rs[k].text)) ∧ Below W.heap.size W w') := fun W => implS16_any rs[k].text W hn2
        have HN8 : Hid (∀ W, Calls Try.prog 46 #[.int .i64 rs[k].num] W fun e w' => e = .returned (.string (numS 8 rs[k].num)) ∧ Below W.heap.size W w') := fun W => implU64_any _ W
        have hq1 := numS_size 1 rs[k].kind
        have hq2 := s8B_size rs[k].tenant
        have hq3 := s16B_size rs[k].text
        have hq4 := numS_size 8 rs[k].num
        have HA2 : Hid (∀ j (h : j < rs.length), j < k + 1 → recOK rs[j]) := fun j h hj => by
          rcases Nat.lt_or_ge j k with h1 | h1
          · exact HALL.out j h h1
          · obtain rfl : j = k := by omega
            exact hok
        have HT := partsR_take rs k hlt
        have E2 : Hid (ps ++ [numS 1 rs[k].kind, s8B rs[k].tenant, s16B rs[k].text, numS 8 rs[k].num] = N8 :: N2 :: partsR (rs.take (k + 1))) := by show _ = _; rw [HT, HPS.out]; rfl
        clear HT hok HALL
        generalize numS 1 rs[k].kind = S1 at *
        generalize s8B rs[k].tenant = S2 at *
        generalize s16B rs[k].text = S3 at *
        generalize numS 8 rs[k].num = S4 at *
        generalize rs[k].kind = ki at *
        generalize rs[k].tenant = te at *
        generalize rs[k].text = tx at *
        generalize rs[k].num = nu at *
        have hnb : ¬ b = wr.heap.size := by omega
        have hsz := hbel.size
        have HBX : Hid (Blk (wr.alloc (.cells #[.int .i64 ki, .string te, .string tx, .int .i64 nu] 67)) wr.heap.size #[.int .i64 ki, .string te, .string tx, .int .i64 nu] 67 ∧ Below wr.heap.size wr (wr.alloc (.cells #[.int .i64 ki, .string te, .string tx, .int .i64 nu] 67))) := ⟨heap_alloc_new _ _, bnew _ _⟩
        have HR2 : Hid ((wr.alloc (.cells #[.int .i64 ki, .string te, .string tx, .int .i64 nu] 67)).ownsRow w.heap.size 9 1 (.slice (some ⟨g, 0, none⟩) ps.length cv) ps.length (ps.map Value.string) ∧ Below w.heap.size w (wr.alloc (.cells #[.int .i64 ki, .string te, .string tx, .int .i64 nu] 67))) := ⟨row_later HROW.out (bnew _ _), bto hbel (bnew _ _)⟩
        have hgB : g < wr.heap.size := (strs_cells HROW.out).2.1
        go_wp2_with fail
        refine (HEN.out _).mono ?_
        rintro e W ⟨rfl, hbW⟩
        have HBX' : Hid (Blk W wr.heap.size #[.int .i64 ki, .string te, .string tx, .int .i64 nu] 67) := HBX.out.1.later hbW
        have HR2' : Hid (W.ownsRow w.heap.size 9 1 (.slice (some ⟨g, 0, none⟩) ps.length cv) ps.length (ps.map Value.string) ∧ Below w.heap.size w W) := ⟨row_later HR2.out.1 hbW, bto HR2.out.2 hbW⟩
        have x0 : W.cell? ⟨wr.heap.size, 0, none⟩ = some (.int .i64 ki) := HBX'.out.cell 0
        have x1 : W.cell? ⟨wr.heap.size, 1, none⟩ = some (.string te) := HBX'.out.cell 1
        have x2 : W.cell? ⟨wr.heap.size, 2, none⟩ = some (.string tx) := HBX'.out.cell 2
        have x3 : W.cell? ⟨wr.heap.size, 3, none⟩ = some (.int .i64 nu) := HBX'.out.cell 3
        have hBX : wr.heap.size < W.heap.size := lt_of_block HBX'.out
        have hww : w.heap.size ≤ W.heap.size := HR2'.out.2.size
        clear HROW HBX HBX' HR2 hnb hb c0 c1 c2 c3 hbel hsz hbW HEN
        go_wp2_with fail
        generalize wr.heap.size = BX at *
        clear wr
        have HKX : Hid (∀ w', Below W.heap.size W w' → w'.cell? ⟨BX, 0, none⟩ = some (.int .i64 ki) ∧ w'.cell? ⟨BX, 1, none⟩ = some (.string te) ∧ w'.cell? ⟨BX, 2, none⟩ = some (.string tx) ∧ w'.cell? ⟨BX, 3, none⟩ = some (.int .i64 nu)) := fun w' h => ⟨(h.cell hBX).trans x0, (h.cell hBX).trans x1, (h.cell hBX).trans x2, (h.cell hBX).trans x3⟩
        go_region_held3 (fun w' => w'.cell? ⟨BX, 0, none⟩ = some (.int .i64 ki) ∧ w'.cell? ⟨BX, 1, none⟩ = some (.string te) ∧ w'.cell? ⟨BX, 2, none⟩ = some (.string tx) ∧ w'.cell? ⟨BX, 3, none⟩ = some (.int .i64 nu))
          (first
            | go_keep
            | exact hkx5
            | exact HKX.out _ (hc4.alloc hc4.size _)
            | exact HKX.out _ hc4
            | exact HKX.out _ hc3
            | exact HKX.out _ hc2
            | exact HKX.out _ hc1)
          ((first
            | (go_at_call 49; refine (HK1.out _).mono ?_; rintro e w1 ⟨rfl, hb1⟩; have hc1 : Below W.heap.size W w1 := (Below.refl _ W).drew.trans hb1)
            | (go_at_call 50; refine (HS8.out _).mono ?_; rintro e w2 ⟨rfl, hb2⟩; have hc2 : Below W.heap.size W w2 := hc1.trans (hb2.mono hc1.size))
            | (go_at_call 51; refine (HS16.out _).mono ?_; rintro e w3 ⟨rfl, hb3⟩; have hc3 : Below W.heap.size W w3 := hc2.trans (hb3.mono hc2.size))
            | (go_at_call 46; refine (HN8.out _).mono ?_; rintro e w4 ⟨rfl, hb4⟩; have hc4 : Below W.heap.size W w4 := hc3.trans (hb4.mono hc3.size))
            | (refine step_append_any _ (by rfl) _ _ _ (by rfl) w.heap.size 9 ti _ 1 16 Try.underlying25 HI.out ht0 ht1 ht2 rfl (by omega) g ps.length cv _ (by rfl) (by exact row_later (row_later HR2'.out.1 hc4) (bnew _ _)) _ 4 4 [.string S1, .string S2, .string S3, .string S4] (by rfl) rfl (by exact Or.inr ⟨_, rfl, World.news_of_block (cs := #[.string S1, .string S2, .string S3, .string S4]) (heap_alloc_new _ _)⟩) (by simp [Value.oneCell']) (by simp [maxLen]; omega) (by omega) (by have := hc4.size; simp; omega) ?_; intro g5 cap5 w5 hown5 hB5 hk5 hg5 hat5 hlt5; have hkx5 : w5.cell? ⟨BX, 0, none⟩ = some (.int .i64 ki) ∧ w5.cell? ⟨BX, 1, none⟩ = some (.string te) ∧ w5.cell? ⟨BX, 2, none⟩ = some (.string tx) ∧ w5.cell? ⟨BX, 3, none⟩ = some (.int .i64 nu) := (by have q := HKX.out _ (hc4.alloc hc4.size (.cells #[.string S1, .string S2, .string S3, .string S4] 9)); have hne := hk5 BX (by have := hc4.size; simp; omega) (by omega); exact ⟨(World.cell?_of_block hne).trans q.1, (World.cell?_of_block hne).trans q.2.1, (World.cell?_of_block hne).trans q.2.2.1, (World.cell?_of_block hne).trans q.2.2.2⟩); have hB5' : Below w.heap.size w w5 := ((bto HR2'.out.2 hc4).alloc (Nat.le_trans hww hc4.size) _).trans hB5)))
        have hxs : ps.map Value.string ++ [Value.string S1, .string S2, .string S3, .string S4] = (ps ++ [S1, S2, S3, S4]).map Value.string := by simp
        have hle : (ps ++ [S1, S2, S3, S4]).length = ps.length + 4 := by simp
        have hsm : sumB (ps ++ [S1, S2, S3, S4]) = sumB ps + (S1.size + (S2.size + (S3.size + S4.size))) := by rw [sumB_append]; simp [sumB]
        rw [hxs, ← hle] at hown5
        rw [← hle]
        have HO5 : Hid (w5.ownsRow w.heap.size 9 1 (.slice (some ⟨g5, 0, none⟩) (ps ++ [S1, S2, S3, S4]).length cap5) (ps ++ [S1, S2, S3, S4]).length ((ps ++ [S1, S2, S3, S4]).map Value.string) ∧ Below w.heap.size w w5) := ⟨hown5, hB5'⟩
        clear hown5 hB5 hB5' hk5 hat5 hkx5 hxs
        generalize ps ++ [S1, S2, S3, S4] = ps5 at *
        go_wp2
        exact ⟨⟨k + 1, ps5, g5, cap5, by omega, by go_num, rfl, by omega, by omega, E2.out, HA2.out, HO5.out.1, HO5.out.2⟩, by simp [intOf]; omega⟩
      · have E : Hid (batB lsn rs = ByteArray.empty) := allR_no hlt hok lsn
        rw [rcB_f hok] at HEN
        generalize rs[k].kind = ki at *
        generalize rs[k].tenant = te at *
        generalize rs[k].text = tx at *
        generalize rs[k].num = nu at *
        clear hok HALL HROW
        go_wp2_with fail
        refine (HEN.out _).mono ?_
        rintro e W ⟨rfl, hbW⟩
        have BW : Hid (Below w.heap.size w W) := bto (bto hbel (bnew _ _)) hbW
        clear hbW HEN
        go_wp2
        go_ret
        exact ⟨by rw [E.out]; rfl, BW.out⟩
    · have hall : allR rs := fun j h => HALL.out j h (by omega)
      have E2 : Hid (catB ps = batB lsn rs) := by
        show _ = _
        rw [HPS.out, List.take_of_length_le (by omega), catB, catB, cat_partsR, HKB.out (HOK.out hall), ByteArray.append_assoc]
      obtain ⟨hcv, hg, hcs⟩ := strs_cells HROW.out
      have HJ : Hid (Calls Try.prog 52 #[.slice (some ⟨g, 0, none⟩) ps.length cv] wr fun e w' => e = .returned (.string (catB ps)) ∧ Below wr.heap.size wr w') := joined_any g ps.length cv ps wr rfl hcs hg hcv (by omega) (by omega)
      rw [E2.out] at HJ
      clear HROW hcs hall
      go_wp2_with fail
      refine HJ.out.mono ?_
      rintro e w2 ⟨rfl, hb2⟩
      have B2 : Hid (Below w.heap.size w w2) := bto hbel hb2
      clear hb2
      go_wp2
      go_ret
      exact ⟨rfl, B2.out⟩
end Go.Proofs.Ytgpgacncmoiefaa
