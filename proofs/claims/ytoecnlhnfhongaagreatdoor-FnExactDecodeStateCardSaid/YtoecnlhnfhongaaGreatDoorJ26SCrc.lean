import Derived.Test.YtoecnlhnfhongaaGreatDoorProg
import Derived.Test.YtoecnlhnfhongaaGreatDoorJ03StaB
import Derived.Test.YtoecnlhnfhongaaGreatDoorJ25Jn
import Derived.Test.YtoecnlhnfhongaaGreatDoorJ04AppA
import Derived.Deep.RegionHeld3
import Derived.Deep.DeepCutAuto
import Derived.Test.YtoecnlhnfhongaaGreatDoorJ01RdL
import Derived.Laws.Tables
import Derived.Laws.CopyRow
import Derived.Test.YtoecnlhnfhongaaGreatDoorJ02BatL
namespace Go.Proofs.YtoecnlhnfhongaaGreatDoor
open Go.RowKit

theorem implU32_any (v : Int) (w : World) : Calls Tryz.prog 38 #[.int .i64 v] w fun e w' => e = .returned (.string (numS 4 v)) ∧ Below w.heap.size w w' := by
  have HC : Hid (∀ W, Calls Tryz.prog 54 #[.int .i64 v, .int .i64 4] W fun e w' => e = .returned (.string (numS 4 v)) ∧ Below W.heap.size W w') := fun W => implHigh_any 4 v W (by omega)
  generalize numS 4 v = N at *
  go_enter Tryz.func38, Tryz.ntmps38
  go_wp2_with fail
  refine (HC.out _).mono ?_
  rintro e w1 ⟨rfl, hb1⟩
  have HB : Hid (Below w.heap.size w w1) := hb1
  clear hb1
  go_wp2
  go_ret
  exact ⟨rfl, HB.out⟩
theorem implU64s_any (v : Int) (w : World) : Calls Tryz.prog 37 #[.int .i64 v] w fun e w' => e = .returned (.string (numS 8 v)) ∧ Below w.heap.size w w' := by
  have HC : Hid (∀ W, Calls Tryz.prog 54 #[.int .i64 v, .int .i64 8] W fun e w' => e = .returned (.string (numS 8 v)) ∧ Below W.heap.size W w') := fun W => implHigh_any 8 v W (by omega)
  generalize numS 8 v = N at *
  go_enter Tryz.func37, Tryz.ntmps37
  go_wp2_with fail
  refine (HC.out _).mono ?_
  rintro e w1 ⟨rfl, hb1⟩
  have HB : Hid (Below w.heap.size w w1) := hb1
  clear hb1
  go_wp2
  go_ret
  exact ⟨rfl, HB.out⟩

def partsP (ps : List PairD) : List ByteArray := ps.flatMap fun p => [s16B p.s, numS 8 p.n]
theorem partsP_take (ps : List PairD) (k : Nat) (h : k < ps.length) : partsP (ps.take (k + 1)) = partsP (ps.take k) ++ [s16B ps[k].s, numS 8 ps[k].n] := by
  unfold partsP
  rw [List.take_succ_eq_append_getElem h, List.flatMap_append]
  rfl
theorem cat_partsP : ∀ (ps : List PairD), catB (partsP ps) = encPs ps
  | [] => rfl
  | p :: q => by
    have e : partsP (p :: q) = [s16B p.s, numS 8 p.n] ++ partsP q := rfl
    rw [e, catB_append, cat_partsP q, encPs]
    simp [catB, encP]
theorem partsP_length : ∀ (ps : List PairD), (partsP ps).length = 2 * ps.length
  | [] => rfl
  | p :: q => by
    have e : partsP (p :: q) = [s16B p.s, numS 8 p.n] ++ partsP q := rfl
    rw [e, List.length_append, partsP_length q]; simp; omega
def tenVD (t : TenD) : Decidable (tenOKb t) := by unfold tenOKb allP; infer_instance
def tenV (t : TenD) : ByteArray := haveI := tenVD t; if tenOKb t then encT t else ByteArray.empty
theorem tenV_no {t : TenD} (h : ¬ tenOKb t) : tenV t = ByteArray.empty := by unfold tenV; rw [if_neg h]
theorem tenV_ok {t : TenD} (h : tenOKb t) : tenV t = encT t := by unfold tenV; rw [if_pos h]

set_option maxRecDepth 100000 in
set_option maxHeartbeats 8000000 in
theorem implTen_any (t : TenD) (a1 a2 : Option Addr) (c1 c2 : Nat) (w : World) (hm : PairsIn w a1 t.mets) (hs : PairsIn w a2 t.sers) (hn : t.name.size ≤ 1000000000) (hl1 : t.mets.length ≤ 2000000) (hl2 : t.sers.length ≤ 2000000) (hb1 : ∀ j (h : j < t.mets.length), t.mets[j].s.size ≤ 1000000000) (hb2 : ∀ j (h : j < t.sers.length), t.sers[j].s.size ≤ 1000000000) :
    Calls Tryz.prog 39 #[.agg #[.string t.name, .int .i64 t.limit, .slice a1 t.mets.length c1, .slice a2 t.sers.length c2]] w fun e w' => e = .returned (.string (tenV t)) ∧ Below w.heap.size w w' := by
  obtain ⟨nm, li, ms, ss⟩ := t
  simp only at hm hs hn hl1 hl2 hb1 hb2 ⊢
  by_cases z1 : nm.size > 255
  · have E : Hid (tenV ⟨nm, li, ms, ss⟩ = ByteArray.empty) := tenV_no fun h => by have := h.1; simp only at this; omega
    have z1' : (nm.size : Int) > 255 := by omega
    rw [E.out]
    clear hm hs hb1 hb2
    go_enter Tryz.func39, Tryz.ntmps39
    go_wp2
    go_ret
    exact ⟨rfl, bnew _ _⟩
  have z1' : ¬ (nm.size : Int) > 255 := by omega
  have HM : Hid (PairsIn w a1 ms) := hm
  have HS : Hid (PairsIn w a2 ss) := hs
  have HBM : Hid (∀ j (h : j < ms.length), ms[j].s.size ≤ 1000000000) := hb1
  have HBS : Hid (∀ j (h : j < ss.length), ss[j].s.size ≤ 1000000000) := hb2
  have HU1 : Hid (∀ W, Calls Tryz.prog 55 #[.string nm] W fun e w' => e = .returned (.string (s8B nm)) ∧ Below W.heap.size W w') := fun W => implS8_any nm W hn
  have HU2 : Hid (∀ W, Calls Tryz.prog 37 #[.int .i64 li] W fun e w' => e = .returned (.string (numS 8 li)) ∧ Below W.heap.size W w') := fun W => implU64s_any li W
  have HU3 : Hid (∀ W, Calls Tryz.prog 38 #[.int .i64 (ms.length : Nat)] W fun e w' => e = .returned (.string (numS 4 (ms.length : Nat))) ∧ Below W.heap.size W w') := fun W => implU32_any _ W
  have HU4 : Hid (∀ W, Calls Tryz.prog 38 #[.int .i64 (ss.length : Nat)] W fun e w' => e = .returned (.string (numS 4 (ss.length : Nat))) ∧ Below W.heap.size W w') := fun W => implU32_any _ W
  have hz1 := s8B_size nm
  have hz2 := numS_size 8 li
  have hz3 := numS_size 4 (ms.length : Nat)
  have hz4 := numS_size 4 (ss.length : Nat)
  have HKB : Hid (allP ms → allP ss → tenV ⟨nm, li, ms, ss⟩ = s8B nm ++ numS 8 li ++ numS 4 (ms.length : Nat) ++ encPs ms ++ numS 4 (ss.length : Nat) ++ encPs ss) := fun h1 h2 => tenV_ok ⟨by simp only; omega, h1, h2⟩
  have HN1 : Hid (∀ k (h : k < ms.length), ¬ ms[k].s.size ≤ 65535 → tenV ⟨nm, li, ms, ss⟩ = ByteArray.empty) := fun k h h2 => tenV_no fun hh => h2 (hh.2.1 k h)
  have HN2 : Hid (∀ k (h : k < ss.length), ¬ ss[k].s.size ≤ 65535 → tenV ⟨nm, li, ms, ss⟩ = ByteArray.empty) := fun k h h2 => tenV_no fun hh => h2 (hh.2.2 k h)
  generalize s8B nm = N1 at *
  generalize numS 8 li = N2 at *
  generalize numS 4 (ms.length : Nat) = N3 at *
  generalize numS 4 (ss.length : Nat) = N4 at *
  generalize tenV ⟨nm, li, ms, ss⟩ = TV at *
  obtain ⟨ti, hti, ht0, ht1, ht2⟩ := info_strR
  have HI : Hid (Tryz.prog.info? 9 = some ti) := hti
  clear hm hs hb1 hb2 hti
  go_enter Tryz.func39, Tryz.ntmps39
  go_upto_region 3 with fail
  have X6 : Hid (Blk (w.alloc (.cells #[.string nm, .int .i64 li, .slice a1 ms.length c1, .slice a2 ss.length c2] 39)) w.heap.size #[.string nm, .int .i64 li, .slice a1 ms.length c1, .slice a2 ss.length c2] 39) := Blk.new _ _ _
  have B0 : Hid (Below w.heap.size w (w.alloc (.cells #[.string nm, .int .i64 li, .slice a1 ms.length c1, .slice a2 ss.length c2] 39))) := bnew _ _
  generalize w.alloc (.cells #[.string nm, .int .i64 li, .slice a1 ms.length c1, .slice a2 ss.length c2] 39) = w0 at *
  have HK : Hid (∀ w', Below w0.heap.size w0 w' → w'.cell? ⟨w.heap.size, 0, none⟩ = some (.string nm) ∧ w'.cell? ⟨w.heap.size, 1, none⟩ = some (.int .i64 li) ∧ w'.cell? ⟨w.heap.size, 2, none⟩ = some (.slice a1 ms.length c1) ∧ w'.cell? ⟨w.heap.size, 3, none⟩ = some (.slice a2 ss.length c2)) := fun w' h => by
    have q := X6.out.later h
    exact ⟨q.cell 0, q.cell 1, q.cell 2, q.cell 3⟩
  obtain ⟨x0, x1, x2, x3⟩ := HK.out w0 (Below.refl _ _)
  go_cut [3] (fun s wx => ∃ g, s = .slice (some ⟨g, 0, none⟩) 3 3 ∧ w0.heap.size ≤ g ∧ wx.heap[g]? = some (.cells #[.string N1, .string N2, .string N3] 9 (0, 0)) ∧ Below w0.heap.size w0 wx)
  case first =>
    go_region_held3 (fun w' => w'.cell? ⟨w.heap.size, 0, none⟩ = some (.string nm) ∧ w'.cell? ⟨w.heap.size, 1, none⟩ = some (.int .i64 li) ∧ w'.cell? ⟨w.heap.size, 2, none⟩ = some (.slice a1 ms.length c1))
      (first | go_keep | exact (⟨(HK.out _ k4).1, (HK.out _ k4).2.1, (HK.out _ k4).2.2.1⟩) | exact (⟨(HK.out _ k3).1, (HK.out _ k3).2.1, (HK.out _ k3).2.2.1⟩) | exact (⟨(HK.out _ k2).1, (HK.out _ k2).2.1, (HK.out _ k2).2.2.1⟩))
      (first
        | (go_at_call 55; refine (HU1.out _).mono ?_; rintro e w2 ⟨rfl, hb2⟩; have k2 : Below w0.heap.size w0 w2 := (by exact bto (Below.refl _ _).drew hb2))
        | (go_at_call 37; refine (HU2.out _).mono ?_; rintro e w3 ⟨rfl, hb3⟩; have k3 : Below w0.heap.size w0 w3 := (by exact bto k2 hb3))
        | (go_at_call 38; refine (HU3.out _).mono ?_; rintro e w4 ⟨rfl, hb4⟩; have k4 : Below w0.heap.size w0 w4 := (by exact bto k3 hb4)))
    all_goals (go_wp2_with fail; go_meet)
    all_goals exact ⟨_, rfl, k4.size, heap_alloc_new _ _, bto k4 (bnew _ _)⟩
  obtain ⟨g0, rfl, hg0, hblk0, hbx⟩ := hcut
  rename World => w5
  have B5 : Hid (Below w.heap.size w w5) := bto B0.out hbx
  have HBL : Hid (w5.heap[g0]? = some (.cells #[.string N1, .string N2, .string N3] 9 (0, 0)) ∧ w.heap.size ≤ g0) := ⟨hblk0, Nat.le_trans B0.out.size hg0⟩
  have HW : Hid (Blk w5 w.heap.size #[.string nm, .int .i64 li, .slice a1 ms.length c1, .slice a2 ss.length c2] 39 ∧ w.heap.size < g0) := ⟨X6.out.later hbx, by have := lt_of_block X6.out; omega⟩
  have y2 : w5.cell? ⟨w.heap.size, 2, none⟩ = some (.slice a1 ms.length c1) := HW.out.1.cell 2
  clear x0 x1 x2 x3 HK X6 hblk0 hg0 hbx B0 HU1 HU2 HU3
  go_wp2
  obtain ⟨TC, hTC⟩ : ∃ TC : Array Value, TC = #[.string nm, .int .i64 li, .slice a1 ms.length c1, .slice a2 ss.length c2] := ⟨_, rfl⟩
  have HT3 : Hid (TC[3]? = some (.slice a2 ss.length c2)) := by show _ = _; rw [hTC]; rfl
  rw [← hTC] at HW
  clear hTC
  go_loopw [3, 5, 26] (fun out _ i wr => ∃ (k : Nat) (ps : List ByteArray) (g cv : Nat), k ≤ ms.length ∧ i = .int .i64 k ∧ out = .slice (some ⟨g, 0, none⟩) ps.length cv ∧ ps.length ≤ 3 + 2 * k ∧ sumB ps ≤ 2000000000 + k * 70000 ∧ Hid (ps = [N1, N2, N3] ++ partsP (ms.take k)) ∧ Hid (∀ j (h : j < ms.length), j < k → ms[j].s.size ≤ 65535) ∧ Hid (wr.ownsRow (w.heap.size + 1) 9 1 (.slice (some ⟨g, 0, none⟩) ps.length cv) ps.length (ps.map Value.string) ∧ Blk wr w.heap.size TC 39) ∧ Below w.heap.size w wr) (fun _ _ i _ => ms.length - (intOf i).toNat)
  case atStart =>
    exact ⟨0, [N1, N2, N3], _, _, Nat.zero_le _, rfl, rfl, by simp, by simp [sumB]; omega, rfl, fun j _ h => absurd h (by omega), ⟨⟨rfl, Or.inr ⟨g0, 3, _, rfl, HW.out.2, HBL.out.1, Nat.le_refl _, by simp [maxLen], rfl, rfl⟩⟩, HW.out.1⟩, B5.out⟩
  case round =>
    obtain ⟨k, ps, g, cv, hk, rfl, rfl, hpl, hps, HPS, HALL, HROW, hbel⟩ := hrel
    by_cases hlt : k < ms.length
    · obtain ⟨b, o, rfl, hb, c0, c1'⟩ := (HM.out.later hbel).at hlt
      have hn1 := HBM.out k hlt
      by_cases hok : ms[k].s.size ≤ 65535
      · have hgt : ¬ (ms[k].s.size : Int) > 65535 := by omega
        have HS16 : Hid (∀ W, Calls Tryz.prog 56 #[.string ms[k].s] W fun e w' => e = .returned (.string (s16B ms[k].s)) ∧ Below W.heap.size W w') := fun W => implS16_any ms[k].s W hn1
        have HN8 : Hid (∀ W, Calls Tryz.prog 37 #[.int .i64 ms[k].n] W fun e w' => e = .returned (.string (numS 8 ms[k].n)) ∧ Below W.heap.size W w') := fun W => implU64s_any _ W
        have hq3 := s16B_size ms[k].s
        have hq4 := numS_size 8 ms[k].n
        have HA2 : Hid (∀ j (h : j < ms.length), j < k + 1 → ms[j].s.size ≤ 65535) := fun j h hj => by
          rcases Nat.lt_or_ge j k with h1 | h1
          · exact HALL.out j h h1
          · obtain rfl : j = k := by omega
            exact hok
        have HT := partsP_take ms k hlt
        have E2 : Hid (ps ++ [s16B ms[k].s, numS 8 ms[k].n] = [N1, N2, N3] ++ partsP (ms.take (k + 1))) := by show _ = _; rw [HT, HPS.out, List.append_assoc]
        clear HT hok HALL
        generalize s16B ms[k].s = S3 at *
        generalize numS 8 ms[k].n = S4 at *
        generalize ms[k].s = tx at *
        generalize ms[k].n = nu at *
        have hnb : ¬ b = wr.heap.size := by omega
        have hsz := hbel.size
        have HBX : Hid (Blk (wr.alloc (.cells #[.string tx, .int .i64 nu] 43)) wr.heap.size #[.string tx, .int .i64 nu] 43) := heap_alloc_new _ _
        have HR2 : Hid ((wr.alloc (.cells #[.string tx, .int .i64 nu] 43)).ownsRow (w.heap.size + 1) 9 1 (.slice (some ⟨g, 0, none⟩) ps.length cv) ps.length (ps.map Value.string) ∧ Below w.heap.size w (wr.alloc (.cells #[.string tx, .int .i64 nu] 43)) ∧ Blk (wr.alloc (.cells #[.string tx, .int .i64 nu] 43)) w.heap.size TC 39) := ⟨row_later HROW.out.1 (bnew _ _), bto hbel (bnew _ _), HROW.out.2.alloc _⟩
        have hgB : g < wr.heap.size := (strs_cells HROW.out.1).2.1
        have hgw : w.heap.size + 1 ≤ g := row_from HROW.out.1 g rfl
        go_upto_region 9 with fail
        generalize wr.alloc (.cells #[.string tx, .int .i64 nu] 43) = W at *
        have x0 : W.cell? ⟨wr.heap.size, 0, none⟩ = some (.string tx) := HBX.out.cell 0
        have x1 : W.cell? ⟨wr.heap.size, 1, none⟩ = some (.int .i64 nu) := HBX.out.cell 1
        have hBX : wr.heap.size < W.heap.size := lt_of_block HBX.out
        have hww : w.heap.size < W.heap.size := lt_of_block HR2.out.2.2
        clear HROW HBX hnb hb c0 c1' hbel hsz
        generalize wr.heap.size = BX at *
        clear wr
        have HKX : Hid (∀ w', Below W.heap.size W w' → w'.cell? ⟨BX, 0, none⟩ = some (.string tx) ∧ w'.cell? ⟨BX, 1, none⟩ = some (.int .i64 nu)) := fun w' h => ⟨(h.cell hBX).trans x0, (h.cell hBX).trans x1⟩
        go_region_held3 (fun w' => w'.cell? ⟨BX, 0, none⟩ = some (.string tx) ∧ w'.cell? ⟨BX, 1, none⟩ = some (.int .i64 nu))
          (first
            | go_keep
            | exact hkx5
            | exact HKX.out _ (hc4.alloc hc4.size _)
            | exact HKX.out _ hc4
            | exact HKX.out _ hc3)
          ((first
            | (go_at_call 56; refine (HS16.out _).mono ?_; rintro e w3 ⟨rfl, hb3⟩; have hc3 : Below W.heap.size W w3 := (Below.refl _ W).drew.trans hb3)
            | (go_at_call 37; refine (HN8.out _).mono ?_; rintro e w4 ⟨rfl, hb4⟩; have hc4 : Below W.heap.size W w4 := hc3.trans (hb4.mono hc3.size))
            | (refine step_append_any _ (by rfl) _ _ _ (by rfl) (w.heap.size + 1) 9 ti _ 1 16 Tryz.underlying72 HI.out ht0 ht1 ht2 rfl (by omega) g ps.length cv _ (by rfl) (by exact row_later (row_later HR2.out.1 hc4) (bnew _ _)) _ 2 2 [.string S3, .string S4] (by rfl) rfl (by exact Or.inr ⟨_, rfl, World.news_of_block (cs := #[.string S3, .string S4]) (heap_alloc_new _ _)⟩) (by simp [Value.oneCell']) (by simp [maxLen]; omega) (by omega) (by have := hc4.size; simp; omega) ?_; intro g5 cap5 w5 hown5 hB5 hk5 hg5 hat5 hlt5; have hkx5 : w5.cell? ⟨BX, 0, none⟩ = some (.string tx) ∧ w5.cell? ⟨BX, 1, none⟩ = some (.int .i64 nu) := (by have q := HKX.out _ (hc4.alloc hc4.size (.cells #[.string S3, .string S4] 9)); have hne := hk5 BX (by have := hc4.size; simp; omega) (by omega); exact ⟨(World.cell?_of_block hne).trans q.1, (World.cell?_of_block hne).trans q.2⟩); have hB5' : Below w.heap.size w w5 := ((bto HR2.out.2.1 hc4).alloc (Nat.le_trans (Nat.le_of_lt hww) hc4.size) _).trans (hB5.mono (Nat.le_succ _)); have hblk5 : Blk w5 w.heap.size TC 39 := (hk5 w.heap.size (by have := hc4.size; simp; omega) (by omega)).trans ((HR2.out.2.2.later hc4).alloc _))))
        have hxs : ps.map Value.string ++ [Value.string S3, .string S4] = (ps ++ [S3, S4]).map Value.string := by simp
        have hle : (ps ++ [S3, S4]).length = ps.length + 2 := by simp
        have hsm : sumB (ps ++ [S3, S4]) = sumB ps + (S3.size + S4.size) := by rw [sumB_append]; simp [sumB]
        rw [hxs, ← hle] at hown5
        rw [← hle]
        have HO5 : Hid ((w5.ownsRow (w.heap.size + 1) 9 1 (.slice (some ⟨g5, 0, none⟩) (ps ++ [S3, S4]).length cap5) (ps ++ [S3, S4]).length ((ps ++ [S3, S4]).map Value.string) ∧ Blk w5 w.heap.size TC 39) ∧ Below w.heap.size w w5) := ⟨⟨hown5, hblk5⟩, hB5'⟩
        clear hown5 hB5 hB5' hk5 hat5 hkx5 hxs hblk5
        generalize ps ++ [S3, S4] = ps5 at *
        go_wp2
        exact ⟨⟨k + 1, ps5, g5, cap5, by omega, by go_num, rfl, by omega, by omega, E2.out, HA2.out, HO5.out.1, HO5.out.2⟩, by simp [intOf]; omega⟩
      · have E : Hid (TV = ByteArray.empty) := HN1.out k hlt hok
        have hgt : (ms[k].s.size : Int) > 65535 := by omega
        generalize ms[k].s = tx at *
        generalize ms[k].n = nu at *
        clear hok HALL HROW
        go_wp2
        go_ret
        exact ⟨by rw [E.out]; rfl, bto hbel (bnew _ _)⟩
    · have hall : allP ms := fun j h => HALL.out j h (by omega)
      have E3 : Hid (ps ++ [N4] = [N1, N2, N3] ++ partsP ms ++ [N4]) := by show _ = _; rw [HPS.out, List.take_of_length_le (by omega)]
      have HAL : Hid (allP ms) := hall
      have y3 : wr.cell? ⟨w.heap.size, 3, none⟩ = some (.slice a2 ss.length c2) := (HROW.out.2.cell 3).trans HT3.out
      have hkm : k ≤ 2000000 := by omega
      clear hall HALL HPS HM HBM HN1 HW HBL B5
      go_wp2_with fail
      refine (HU4.out _).mono ?_
      rintro e w4 ⟨rfl, hb4⟩
      have HB4 : Hid (Below wr.heap.size wr w4) := hb4
      have hsz1 : wr.heap.size ≤ w4.heap.size := hb4.size
      have hgw : w.heap.size + 1 ≤ g := row_from HROW.out.1 g rfl
      have hww : w.heap.size < wr.heap.size := lt_of_block HROW.out.2
      have HROW4 : Hid (w4.ownsRow (w.heap.size + 1) 9 1 (.slice (some ⟨g, 0, none⟩) ps.length cv) ps.length (ps.map Value.string) ∧ Blk w4 w.heap.size TC 39 ∧ Below w.heap.size w w4) := ⟨row_later HROW.out.1 hb4, HROW.out.2.later hb4, bto hbel hb4⟩
      clear hb4 HROW hbel y3
      go_wp2_with (at_builtin; refine wpList_append_lies _ rfl _ _ _ rfl (w.heap.size + 1) 9 ti _ 1 16 Tryz.underlying72 HI.out ht0 ht1 ht2 rfl (by omega) (.slice (some ⟨g, 0, none⟩) ps.length cv) ps.length (ps.map Value.string) rfl (by exact row_later HROW4.out.1 (bnew _ _)) ⟨w4.heap.size, 0, none⟩ 1 1 [.string N4] rfl rfl (by exact World.news_of_block (heap_alloc_new _ _)) (by simp [Value.oneCell']) (by omega) (by simp [maxLen]; omega) (by omega) (by simp; omega) (w4.heap.size + 1) (by simp) ?_; intro g5 cap5 w5 hown5 hgrow5 hat5 hlt5; have hB5 : Below (w.heap.size + 1) (w4.alloc (.cells #[.string N4] 9)) w5 := (Below.refl _ _).grown hgrow5 (by simp; omega) (fun q hq => by simp [Value.ownBlock] at hq; omega); have hblk5 : Blk w5 w.heap.size TC 39 := (hB5.block w.heap.size (by omega)).trans (HROW4.out.2.1.alloc _); have y3 : w5.cell? ⟨w.heap.size, 3, none⟩ = some (.slice a2 ss.length c2) := (hblk5.cell 3).trans HT3.out)
      have hxs : ps.map Value.string ++ [Value.string N4] = (ps ++ [N4]).map Value.string := by simp
      have hle : (ps ++ [N4]).length = ps.length + 1 := by simp
      have hsm : sumB (ps ++ [N4]) = sumB ps + N4.size := by rw [sumB_append]; simp [sumB]
      rw [hxs, ← hle] at hown5
      rw [← hle]
      have HO5 : Hid ((w5.ownsRow (w.heap.size + 1) 9 1 (.slice (some ⟨g5, 0, none⟩) (ps ++ [N4]).length cap5) (ps ++ [N4]).length ((ps ++ [N4]).map Value.string) ∧ Blk w5 w.heap.size TC 39) ∧ Below w.heap.size w w5) := ⟨⟨hown5, hblk5⟩, (bto HROW4.out.2.2 (bnew _ _)).trans (hB5.mono (Nat.le_succ _))⟩
      have hPP1 : (ps ++ [N4]).length ≤ 4000010 := by omega
      have hPP2 : sumB (ps ++ [N4]) ≤ 200000000000 := by omega
      clear hown5 hB5 hgrow5 hat5 hlt5 hblk5 hxs hle hsm HROW4 HB4 HU4 hsz1 hgw hww hpl hps hkm
      generalize ps ++ [N4] = PP at *
      go_loopw [3, 7, 54] (fun out _ i wr => ∃ (k : Nat) (ps : List ByteArray) (g cv : Nat), k ≤ ss.length ∧ i = .int .i64 k ∧ out = .slice (some ⟨g, 0, none⟩) ps.length cv ∧ ps.length ≤ 4000010 + 2 * k ∧ sumB ps ≤ 200000000000 + k * 70000 ∧ Hid (ps = PP ++ partsP (ss.take k)) ∧ Hid (∀ j (h : j < ss.length), j < k → ss[j].s.size ≤ 65535) ∧ Hid (wr.ownsRow (w.heap.size + 1) 9 1 (.slice (some ⟨g, 0, none⟩) ps.length cv) ps.length (ps.map Value.string) ∧ Blk wr w.heap.size TC 39) ∧ Below w.heap.size w wr) (fun _ _ i _ => ss.length - (intOf i).toNat)
      case atStart =>
        exact ⟨0, PP, _, _, Nat.zero_le _, rfl, rfl, by omega, by omega, by show _ = _; simp [partsP], fun j _ h => absurd h (by omega), HO5.out.1, HO5.out.2⟩
      case round =>
        obtain ⟨k, ps, g, cv, hk, rfl, rfl, hpl, hps, HPS, HALL, HROW, hbel⟩ := hrel
        by_cases hlt : k < ss.length
        · obtain ⟨b, o, rfl, hb, c0, c1'⟩ := (HS.out.later hbel).at hlt
          have hn1 := HBS.out k hlt
          by_cases hok : ss[k].s.size ≤ 65535
          · have hgt : ¬ (ss[k].s.size : Int) > 65535 := by omega
            have HS16 : Hid (∀ W, Calls Tryz.prog 56 #[.string ss[k].s] W fun e w' => e = .returned (.string (s16B ss[k].s)) ∧ Below W.heap.size W w') := fun W => implS16_any ss[k].s W hn1
            have HN8 : Hid (∀ W, Calls Tryz.prog 37 #[.int .i64 ss[k].n] W fun e w' => e = .returned (.string (numS 8 ss[k].n)) ∧ Below W.heap.size W w') := fun W => implU64s_any _ W
            have hq3 := s16B_size ss[k].s
            have hq4 := numS_size 8 ss[k].n
            have HA2 : Hid (∀ j (h : j < ss.length), j < k + 1 → ss[j].s.size ≤ 65535) := fun j h hj => by
              rcases Nat.lt_or_ge j k with h1 | h1
              · exact HALL.out j h h1
              · obtain rfl : j = k := by omega
                exact hok
            have HT := partsP_take ss k hlt
            have E2 : Hid (ps ++ [s16B ss[k].s, numS 8 ss[k].n] = PP ++ partsP (ss.take (k + 1))) := by show _ = _; rw [HT, HPS.out, List.append_assoc]
            clear HT hok HALL
            generalize s16B ss[k].s = S3 at *
            generalize numS 8 ss[k].n = S4 at *
            generalize ss[k].s = tx at *
            generalize ss[k].n = nu at *
            have hnb : ¬ b = wr.heap.size := by omega
            have hsz := hbel.size
            have HBX : Hid (Blk (wr.alloc (.cells #[.string tx, .int .i64 nu] 45)) wr.heap.size #[.string tx, .int .i64 nu] 45) := heap_alloc_new _ _
            have HR2 : Hid ((wr.alloc (.cells #[.string tx, .int .i64 nu] 45)).ownsRow (w.heap.size + 1) 9 1 (.slice (some ⟨g, 0, none⟩) ps.length cv) ps.length (ps.map Value.string) ∧ Below w.heap.size w (wr.alloc (.cells #[.string tx, .int .i64 nu] 45)) ∧ Blk (wr.alloc (.cells #[.string tx, .int .i64 nu] 45)) w.heap.size TC 39) := ⟨row_later HROW.out.1 (bnew _ _), bto hbel (bnew _ _), HROW.out.2.alloc _⟩
            have hgB : g < wr.heap.size := (strs_cells HROW.out.1).2.1
            have hgw : w.heap.size + 1 ≤ g := row_from HROW.out.1 g rfl
            go_upto_region 17 with fail
            generalize wr.alloc (.cells #[.string tx, .int .i64 nu] 45) = W at *
            have x0 : W.cell? ⟨wr.heap.size, 0, none⟩ = some (.string tx) := HBX.out.cell 0
            have x1 : W.cell? ⟨wr.heap.size, 1, none⟩ = some (.int .i64 nu) := HBX.out.cell 1
            have hBX : wr.heap.size < W.heap.size := lt_of_block HBX.out
            have hww : w.heap.size < W.heap.size := lt_of_block HR2.out.2.2
            clear HROW HBX hnb hb c0 c1' hbel hsz
            generalize wr.heap.size = BX at *
            clear wr
            have HKX : Hid (∀ w', Below W.heap.size W w' → w'.cell? ⟨BX, 0, none⟩ = some (.string tx) ∧ w'.cell? ⟨BX, 1, none⟩ = some (.int .i64 nu)) := fun w' h => ⟨(h.cell hBX).trans x0, (h.cell hBX).trans x1⟩
            go_region_held3 (fun w' => w'.cell? ⟨BX, 0, none⟩ = some (.string tx) ∧ w'.cell? ⟨BX, 1, none⟩ = some (.int .i64 nu))
              (first
                | go_keep
                | exact hkx5
                | exact HKX.out _ (hc4.alloc hc4.size _)
                | exact HKX.out _ hc4
                | exact HKX.out _ hc3)
              ((first
                | (go_at_call 56; refine (HS16.out _).mono ?_; rintro e w3 ⟨rfl, hb3⟩; have hc3 : Below W.heap.size W w3 := (Below.refl _ W).drew.trans hb3)
                | (go_at_call 37; refine (HN8.out _).mono ?_; rintro e w4 ⟨rfl, hb4⟩; have hc4 : Below W.heap.size W w4 := hc3.trans (hb4.mono hc3.size))
                | (refine step_append_any _ (by rfl) _ _ _ (by rfl) (w.heap.size + 1) 9 ti _ 1 16 Tryz.underlying72 HI.out ht0 ht1 ht2 rfl (by omega) g ps.length cv _ (by rfl) (by exact row_later (row_later HR2.out.1 hc4) (bnew _ _)) _ 2 2 [.string S3, .string S4] (by rfl) rfl (by exact Or.inr ⟨_, rfl, World.news_of_block (cs := #[.string S3, .string S4]) (heap_alloc_new _ _)⟩) (by simp [Value.oneCell']) (by simp [maxLen]; omega) (by omega) (by have := hc4.size; simp; omega) ?_; intro g5 cap5 w5 hown5 hB5 hk5 hg5 hat5 hlt5; have hkx5 : w5.cell? ⟨BX, 0, none⟩ = some (.string tx) ∧ w5.cell? ⟨BX, 1, none⟩ = some (.int .i64 nu) := (by have q := HKX.out _ (hc4.alloc hc4.size (.cells #[.string S3, .string S4] 9)); have hne := hk5 BX (by have := hc4.size; simp; omega) (by omega); exact ⟨(World.cell?_of_block hne).trans q.1, (World.cell?_of_block hne).trans q.2⟩); have hB5' : Below w.heap.size w w5 := ((bto HR2.out.2.1 hc4).alloc (Nat.le_trans (Nat.le_of_lt hww) hc4.size) _).trans (hB5.mono (Nat.le_succ _)); have hblk5 : Blk w5 w.heap.size TC 39 := (hk5 w.heap.size (by have := hc4.size; simp; omega) (by omega)).trans ((HR2.out.2.2.later hc4).alloc _))))
            have hxs : ps.map Value.string ++ [Value.string S3, .string S4] = (ps ++ [S3, S4]).map Value.string := by simp
            have hle : (ps ++ [S3, S4]).length = ps.length + 2 := by simp
            have hsm : sumB (ps ++ [S3, S4]) = sumB ps + (S3.size + S4.size) := by rw [sumB_append]; simp [sumB]
            rw [hxs, ← hle] at hown5
            rw [← hle]
            have HO5 : Hid ((w5.ownsRow (w.heap.size + 1) 9 1 (.slice (some ⟨g5, 0, none⟩) (ps ++ [S3, S4]).length cap5) (ps ++ [S3, S4]).length ((ps ++ [S3, S4]).map Value.string) ∧ Blk w5 w.heap.size TC 39) ∧ Below w.heap.size w w5) := ⟨⟨hown5, hblk5⟩, hB5'⟩
            clear hown5 hB5 hB5' hk5 hat5 hkx5 hxs hblk5
            generalize ps ++ [S3, S4] = ps5 at *
            go_wp2
            exact ⟨⟨k + 1, ps5, g5, cap5, by omega, by go_num, rfl, by omega, by omega, E2.out, HA2.out, HO5.out.1, HO5.out.2⟩, by simp [intOf]; omega⟩
          · have E : Hid (TV = ByteArray.empty) := HN2.out k hlt hok
            have hgt : (ss[k].s.size : Int) > 65535 := by omega
            generalize ss[k].s = tx at *
            generalize ss[k].n = nu at *
            clear hok HALL HROW
            go_wp2
            go_ret
            exact ⟨by rw [E.out]; rfl, bto hbel (bnew _ _)⟩
        · have hall : allP ss := fun j h => HALL.out j h (by omega)
          have E2 : Hid (catB ps = TV) := by
            show _ = _
            rw [HPS.out, List.take_of_length_le (by omega), catB_append, cat_partsP, E3.out, catB_append, catB_append, cat_partsP, HKB.out HAL.out hall]
            simp [catB, ByteArray.append_assoc]
          obtain ⟨hcv, hg, hcs⟩ := strs_cells HROW.out.1
          have HJ : Hid (Calls Tryz.prog 40 #[.slice (some ⟨g, 0, none⟩) ps.length cv] wr fun e w' => e = .returned (.string (catB ps)) ∧ Below wr.heap.size wr w') := joined_any g ps.length cv ps wr rfl hcs hg hcv (by omega) (by omega)
          rw [E2.out] at HJ
          clear HROW hcs hall
          go_wp2_with fail
          refine HJ.out.mono ?_
          rintro e w2 ⟨rfl, hb2⟩
          have B2 : Hid (Below w.heap.size w w2) := bto hbel hb2
          clear hb2
          go_wp2
          go_ret
          exact ⟨rfl, B2.out⟩
end Go.Proofs.YtoecnlhnfhongaaGreatDoor

namespace Go.Proofs.YtoecnlhnfhongaaGreatDoor
open Go.RowKit

/-- One shift of the table's. -/
def crcSh (x : Nat) : Nat := if x % 2 = 1 then (x / 2) ^^^ 2197175160 else x / 2
def crcShs (x : Nat) : Nat → Nat
  | 0 => x
  | k + 1 => crcSh (crcShs x k)
/-- What eight shifts make of a byte. -/
def crcT (i : Nat) : Nat := crcShs i 8

theorem crcSh_lt {x : Nat} (h : x < 4294967296) : crcSh x < 4294967296 := by
  unfold crcSh
  split
  · exact Nat.xor_lt_two_pow (n := 32) (by omega) (by omega)
  · omega
theorem crcShs_lt {x : Nat} (h : x < 4294967296) : ∀ k, crcShs x k < 4294967296
  | 0 => h
  | k + 1 => crcSh_lt (crcShs_lt h k)
theorem crcT_lt {i : Nat} (h : i < 256) : crcT i < 4294967296 := crcShs_lt (by omega) 8

theorem xor_odd (a b : Nat) : (a ^^^ b) % 2 = (a + b) % 2 := by
  have := Nat.xor_mod_two_eq_one (a := a) (b := b)
  omega
theorem crcSh_bit (r x : Nat) : crcSh (r ^^^ x) = crcBit r x ^^^ (x / 2) := by
  unfold crcSh crcBit
  rw [xor_odd, Nat.xor_div_two]
  split
  · rw [Nat.xor_assoc, Nat.xor_comm (x / 2), ← Nat.xor_assoc]
  · rfl
theorem crcShs_bits (r b : Nat) : ∀ k, crcShs (r ^^^ b) k = crcBits r b k ^^^ (b / 2 ^ k)
  | 0 => by simp [crcShs, crcBits]
  | k + 1 => by
    show crcSh (crcShs (r ^^^ b) k) = crcBit (crcBits r b k) (b / 2 ^ k) ^^^ (b / 2 ^ (k + 1))
    rw [crcShs_bits r b k, crcSh_bit, Nat.div_div_eq_div_mul, Nat.pow_succ]
theorem crcSh_even (x z : Nat) : crcSh (x ^^^ (2 * z)) = crcSh x ^^^ z := by
  unfold crcSh
  rw [xor_odd, Nat.xor_div_two, show (x + 2 * z) % 2 = x % 2 by omega, show 2 * z / 2 = z by omega]
  split
  · rw [Nat.xor_assoc, Nat.xor_comm z, ← Nat.xor_assoc]
  · rfl
theorem crcShs_even (x z : Nat) : ∀ k, crcShs (x ^^^ (2 ^ k * z)) k = crcShs x k ^^^ z
  | 0 => by simp [crcShs]
  | k + 1 => by
    show crcSh (crcShs (x ^^^ (2 ^ (k + 1) * z)) k) = crcSh (crcShs x k) ^^^ z
    rw [Nat.pow_succ, Nat.mul_assoc, crcShs_even x (2 * z) k, crcSh_even]
theorem crc_parts (r : Nat) : r = (r % 256) ^^^ (256 * (r / 256)) := by
  have h : 256 * (r / 256) + r % 256 = (2 ^ 8 * (r / 256)) ||| (r % 256) := Nat.two_pow_add_eq_or_of_lt (i := 8) (b := r % 256) (by omega) (r / 256)
  have h2 : (r % 256) ^^^ (256 * (r / 256)) = (2 ^ 8 * (r / 256)) ||| (r % 256) := by
    apply Nat.eq_of_testBit_eq
    intro i
    rw [Nat.testBit_xor, Nat.testBit_or, show 256 * (r / 256) = 2 ^ 8 * (r / 256) from rfl, Nat.testBit_two_pow_mul, show r % 256 = r % 2 ^ 8 from rfl, Nat.testBit_mod_two_pow]
    by_cases hi : i < 8
    · simp [hi, Nat.not_le.2 hi]
    · simp [hi, Nat.not_lt.1 hi]
  omega
theorem crc_table (r b : Nat) (hb : b < 256) : crcBits r b 8 = (r / 256) ^^^ crcT ((r % 256) ^^^ b) := by
  have h1 := crcShs_bits r b 8
  rw [show b / 2 ^ 8 = 0 by omega, Nat.xor_zero] at h1
  rw [← h1]
  have h2 := crcShs_even ((r % 256) ^^^ b) (r / 256) 8
  rw [show ((r % 256) ^^^ b) ^^^ (2 ^ 8 * (r / 256)) = r ^^^ b by
    rw [Nat.xor_assoc, Nat.xor_comm b, ← Nat.xor_assoc, show (2 ^ 8 * (r / 256)) = 256 * (r / 256) from rfl, ← crc_parts r]] at h2
  rw [h2, Nat.xor_comm]; rfl
end Go.Proofs.YtoecnlhnfhongaaGreatDoor

namespace Go.Proofs.YtoecnlhnfhongaaGreatDoor
open Go.RowKit

theorem zero_tab : ∃ Z : Array Value, Z = Array.replicate 256 (.int .u32 0) ∧ ∀ w, (zeroValue 110).run Tryz.prog w = .ok (.agg Z) w := ⟨_, rfl, fun _ => by kernel_rfl⟩
theorem store_same (P : Program) (w : World) (Z : Array Value) (t : TypeId) (h1 : ∀ v ∈ Z.toList, v.oneCell' = true) :
    (storeCells ⟨w.heap.size, 0, none⟩ Z.toList).run P (w.alloc (.cells Z t)) = .ok () (w.alloc (.cells Z t)) := by
  have hg : (w.alloc (.cells Z t)).heap[w.heap.size]? = some (.cells Z t (0, 0)) := heap_alloc_new _ _
  have h := run_storeCells_from (P := P) w.heap.size t Z.toList 0 Z _ hg (by simp) h1
  rw [h]
  simp only [List.take_zero, List.nil_append, Array.toArray_toList]
  rw [setRow_self _ _ Z t (0, 0) hg]
theorem and_one_u32 (a : Nat) (ha : a < 4294967296) : bits .and .u32 (a : Int) 1 = ((a % 2 : Nat) : Int) := by
  show IntKind.u32.wrap ((BitVec.ofInt 32 (a : Int) &&& BitVec.ofInt 32 ((1 : Nat) : Int)).toNat : Int) = _
  rw [BitVec.toNat_and, BitVec.ofInt_natCast, BitVec.ofInt_natCast, BitVec.toNat_ofNat, BitVec.toNat_ofNat, Nat.mod_eq_of_lt (by omega), Nat.mod_eq_of_lt (by omega), Nat.and_one_is_mod]
  simp only [IntKind.wrap, IntKind.bits, IntKind.signed]
  simp
  omega
theorem xor_u32 (a b : Nat) (ha : a < 4294967296) (hb : b < 4294967296) : bits .xor .u32 (a : Int) (b : Int) = ((a ^^^ b : Nat) : Int) := by
  have hx : a ^^^ b < 2 ^ 32 := Nat.xor_lt_two_pow (by omega) (by omega)
  show IntKind.u32.wrap ((BitVec.ofInt 32 (a : Int) ^^^ BitVec.ofInt 32 (b : Int)).toNat : Int) = _
  rw [BitVec.toNat_xor, BitVec.ofInt_natCast, BitVec.ofInt_natCast, BitVec.toNat_ofNat, BitVec.toNat_ofNat, Nat.mod_eq_of_lt (by omega), Nat.mod_eq_of_lt (by omega)]
  simp only [IntKind.wrap, IntKind.bits, IntKind.signed]
  simp
  omega

set_option maxRecDepth 100000 in
set_option maxHeartbeats 1000000 in
theorem makeTab_any (w : World) :
    Calls Tryz.prog 58 #[] w fun e w' => ∃ b cur, e = .returned (.pointer (some ⟨b, 0, none⟩)) ∧ w.heap.size ≤ b ∧ Blk w' b cur 110 ∧ (∀ i, i < 256 → cur[i]? = some (.int .u32 (crcT i : Nat))) ∧ Below w.heap.size w w' := by
  obtain ⟨Z, hZ, hz⟩ := zero_tab
  have HZ : Hid (Z = Array.replicate 256 (.int .u32 0)) := hZ
  have hzs : Z.size = 256 := by rw [hZ]; simp
  have hst := store_same Tryz.prog w Z 110 (by rw [hZ]; simp [Value.oneCell'])
  have hB : Blk (w.alloc (.cells Z 110)) w.heap.size Z 110 := heap_alloc_new _ _
  have HB : Hid (Blk (w.alloc (.cells Z 110)) w.heap.size Z 110) := hB
  clear hZ hB
  go_enter Tryz.func58, Tryz.ntmps58
  go_wp2
  go_loopw [2, 3, 5] (fun _ _ c wr => ∃ (k : Nat) (cur : Array Value), k ≤ 256 ∧ c = .int .i64 k ∧ Hid (Blk wr w.heap.size cur 110) ∧ cur.size = 256 ∧ Hid (∀ i, i < k → cur[i]? = some (.int .u32 (crcT i : Nat))) ∧ Hid (Below w.heap.size w wr)) (fun _ _ c _ => 256 - (intOf c).toNat)
  case atStart => exact ⟨0, Z, by omega, rfl, HB, hzs, fun i hi => absurd hi (by omega), bnew _ _⟩
  case round =>
    obtain ⟨k, cur, hk, rfl, hblk, hcs, hcur, hbel⟩ := hrel
    by_cases hlt : k < 256
    · go_wp2
      go_loop [3, 10] (fun x c => ∃ (j X : Nat), j ≤ 8 ∧ c = .int .i64 j ∧ x = .int .u32 X ∧ X < 4294967296 ∧ Hid (X = crcShs k j)) (fun _ c => 8 - (intOf c).toNat)
      case atStart => exact ⟨0, k, by omega, rfl, by go_num, by omega, rfl⟩
      case round =>
        obtain ⟨j, X, hj, rfl, rfl, hX, hx⟩ := hrel
        have ha := and_one_u32 X hX
        have hxr := xor_u32 (X / 2) 2197175160 (by omega) (by omega)
        by_cases h8 : j < 8
        · by_cases hodd : X % 2 = 1
          · rw [hodd] at ha
            go_wp2
            refine ⟨⟨j + 1, (X / 2) ^^^ 2197175160, by omega, by go_num, ?_, Nat.xor_lt_two_pow (n := 32) (by omega) (by omega), ?_⟩, by simp [intOf]; omega⟩
            · rw [← hxr]; congr 2
            · show _ = _
              rw [crcShs, ← hx.out, crcSh, if_pos hodd]
          · have h0 : X % 2 = 0 := by omega
            rw [h0] at ha
            go_wp2
            refine ⟨⟨j + 1, X / 2, by omega, by go_num, ?_, by omega, ?_⟩, by simp [intOf]; omega⟩
            · go_num
            · show _ = _
              rw [crcShs, ← hx.out, crcSh, if_neg hodd]
        · have e : j = 8 := by omega
          subst e
          have hc : wr.cell? ⟨w.heap.size, k, none⟩ = some (cur[k]'(by omega)) := by rw [hblk.out.cell]; exact Array.getElem?_eq_getElem _
          have hf := hblk.out.free k
          go_wp2
          refine ⟨⟨k + 1, cur.setIfInBounds k (.int .u32 X), by omega, by go_num, hblk.out.set k _, by simp [hcs], ?_, ?_⟩, by simp [intOf]; omega⟩
          · intro i hi
            rw [Array.getElem?_setIfInBounds]
            split
            · rename_i e
              subst e
              rw [if_pos (by omega), hx.out]
              rfl
            · exact hcur.out i (by omega)
          · exact hbel.out.setCell (p := ⟨w.heap.size, k, none⟩) (Nat.le_refl _) _
    · have e : k = 256 := by omega
      subst e
      go_wp2
      go_ret
      exact ⟨w.heap.size, cur, rfl, Nat.le_refl _, hblk.out, hcur.out, hbel.out⟩
end Go.Proofs.YtoecnlhnfhongaaGreatDoor

namespace Go.Proofs.YtoecnlhnfhongaaGreatDoor
open Go.RowKit

set_option maxRecDepth 100000 in
set_option maxHeartbeats 1000000 in
theorem specCrc_any (s : ByteArray) (w : World) (hs : s.size ≤ maxLen) :
    Calls Tryz.prog 32 #[.string s] w fun e w' => e = .returned (.int .i64 (crcV s : Nat)) ∧ w' = w := by
  unfold maxLen at hs
  go_enter Tryz.func32, Tryz.ntmps32
  go_wp2
  go_loop [3, 4, 5, 6, 7, 8] (fun r i _ _ _ _ => ∃ (j R : Nat), j ≤ s.size ∧ i = .int .i64 j ∧ r = .int .i64 R ∧ Hid (R = crcL (s.data.toList.take j))) (fun _ i _ _ _ _ => s.size - (intOf i).toNat)
  case atStart => exact ⟨0, 4294967295, Nat.zero_le _, rfl, rfl, rfl⟩
  case round =>
    obtain ⟨j, R, hj, rfl, rfl, hR⟩ := hrel
    have hRlt : R < 4294967296 := by rw [hR.out]; exact crcL_lt _
    by_cases hlt : j < s.size
    · have hU : s[j].toNat < 256 := s[j].toNat_lt
      go_wp2
      go_loop [3, 5, 6, 7, 8] (fun r k _ _ _ => ∃ (m S : Nat), m ≤ 8 ∧ k = .int .i64 m ∧ r = .int .i64 S ∧ Hid (S = crcBits R s[j].toNat m)) (fun _ k _ _ _ => 8 - (intOf k).toNat)
      case atStart => exact ⟨0, R, by omega, rfl, rfl, rfl⟩
      case round =>
        obtain ⟨m, S, hm, rfl, rfl, hS⟩ := hrel
        have hSlt : S < 4294967296 := by rw [hS.out]; exact crcBits_lt hRlt _
        by_cases hm8 : m < 8
        · go_wp2
          go_loop [6, 7] (fun x q => ∃ (t X : Nat), t ≤ m ∧ q = .int .i64 t ∧ x = .int .i64 X ∧ Hid (X = s[j].toNat / 2 ^ t)) (fun _ q => m - (intOf q).toNat)
          case atStart => exact ⟨0, s[j].toNat, by omega, rfl, rfl, by show _ = _; simp⟩
          case round =>
            obtain ⟨t, X, ht, rfl, rfl, hX⟩ := hrel
            have hXlt : X < 256 := by
              have : X ≤ s[j].toNat := by rw [hX.out]; exact Nat.div_le_self _ _
              omega
            by_cases htm : t < m
            · go_wp2
              exact ⟨⟨t + 1, X / 2, by omega, by go_num, by go_num, by show _ = _; rw [hX.out, Nat.div_div_eq_div_mul, Nat.pow_succ]⟩, by simp [intOf]; omega⟩
            · have e : t = m := by omega
              subst e
              by_cases hodd : (S + X) % 2 = 1
              · go_wp2
                have e2 : bits BinOp.xor IntKind.i64 ((S : Int) / 2) 2197175160 = (((S / 2) ^^^ 2197175160 : Nat) : Int) := xor_i64 (S / 2) 2197175160 (by omega) (by omega)
                rw [e2]
                exact ⟨⟨t + 1, _, by omega, by go_num, rfl, by show _ = _; rw [crcBits, crcBit, ← hS.out, ← hX.out, if_pos hodd]⟩, by simp [intOf]; omega⟩
              · go_wp2
                exact ⟨⟨t + 1, S / 2, by omega, by go_num, by go_num, by show _ = _; rw [crcBits, crcBit, ← hS.out, ← hX.out, if_neg hodd]⟩, by simp [intOf]; omega⟩
        · go_wp2
          have e : m = 8 := by omega
          subst e
          exact ⟨⟨j + 1, S, by omega, by go_num, rfl, by show _ = _; rw [take_snoc s j hlt, crcL_snoc, ← hR.out, crcByte, hS.out]⟩, by simp [intOf]; omega⟩
    · go_wp2
      go_ret
      refine ⟨ret_int ?_, rfl⟩
      rw [crcV, ← List.take_of_length_le (l := s.data.toList) (i := j) (by simp; omega), ← hR.out]
      omega
end Go.Proofs.YtoecnlhnfhongaaGreatDoor

