import Derived.Test.YtgpgacncmoiefaaProg
import Derived.Test.YtgpgacncmoiefaaTenB
import Derived.Test.YtgpgacncmoiefaaPrT
namespace Go.Proofs.Ytgpgacncmoiefaa
open Go.RowKit

set_option maxRecDepth 100000 in
set_option maxHeartbeats 1000000 in
theorem szTenant_any (f : TenD) (a1 a2 : Option Addr) (c1 c2 : Nat) (left : Int) (w : World) (h0 : 0 ≤ left) (h1 : left ≤ 1048576) (hs : ShortTen f) (p1 : PairsIn w a1 f.mets) (p2 : PairsIn w a2 f.sers) :
    Calls Try.prog 77 #[.agg #[.string f.name, .int .i64 f.limit, .slice a1 f.mets.length c1, .slice a2 f.sers.length c2], .int .i64 left] w fun e w' => e = .returned (.int .i64 (szTen left f)) ∧ Below w.heap.size w w' := by
  obtain ⟨hn, hsm, hlm, hss, hls⟩ := hs
  unfold maxLen at hn
  by_cases k1 : left - f.name.size < 0
  · have E : Hid (szTen left f = -1) := by show _ = _; unfold szTen tenBulk; rw [if_neg]; omega
    clear p1 p2 hsm hlm hss hls
    go_enter Try.func77, Try.ntmps77
    go_wp2
    go_ret
    exact ⟨ret_int E.out.symm, bnew _ _⟩
  have HM : Hid (∀ W, Below w.heap.size w W → Calls Try.prog 86 #[.slice a1 f.mets.length c1, .int .i64 (left - f.name.size)] W fun e w' => e = .returned (.int .i64 (szPairs (left - f.name.size) f.mets)) ∧ Below W.heap.size W w') :=
    fun W hW => szMetricLimitS_any a1 c1 f.mets _ W (by omega) (by omega) (p1.later hW) hsm hlm
  by_cases k2 : (f.mets.length + pairBulk f.mets : Int) ≤ left - f.name.size
  · have e2 : szPairs (left - f.name.size) f.mets = left - f.name.size - f.mets.length - pairBulk f.mets := by unfold szPairs; rw [if_pos k2]
    rw [e2] at HM
    have k2' : ¬ (left - f.name.size - f.mets.length - pairBulk f.mets < 0) := by omega
    have HS : Hid (∀ W, Below w.heap.size w W → Calls Try.prog 87 #[.slice a2 f.sers.length c2, .int .i64 (left - f.name.size - f.mets.length - pairBulk f.mets)] W fun e w' => e = .returned (.int .i64 (szPairs (left - f.name.size - f.mets.length - pairBulk f.mets) f.sers)) ∧ Below W.heap.size W w') :=
      fun W hW => szSeriesS_any a2 c2 f.sers _ W (by omega) (by omega) (p2.later hW) hss hls
    by_cases k3 : (f.sers.length + pairBulk f.sers : Int) ≤ left - f.name.size - f.mets.length - pairBulk f.mets
    · have e3 : szPairs (left - f.name.size - f.mets.length - pairBulk f.mets) f.sers = left - f.name.size - f.mets.length - pairBulk f.mets - f.sers.length - pairBulk f.sers := by unfold szPairs; rw [if_pos k3]
      rw [e3] at HS
      have k3' : ¬ (left - f.name.size - f.mets.length - pairBulk f.mets - f.sers.length - pairBulk f.sers < 0) := by omega
      have E : Hid (szTen left f = left - f.name.size - f.mets.length - pairBulk f.mets - f.sers.length - pairBulk f.sers) := by show _ = _; unfold szTen tenBulk; rw [if_pos] <;> omega
      clear p1 p2 hsm hlm hss hls e2 e3 k2 k3
      go_enter Try.func77, Try.ntmps77
      go_wp2_with fail
      refine (HM.out _ (bnew _ _)).mono ?_
      rintro e w1 ⟨rfl, hb1⟩
      have B1 : Hid (Below w.heap.size w w1) := bto (bnew _ _) hb1
      obtain ⟨hc, hf⟩ := bcell hb1
      clear hb1
      go_wp2_with fail
      refine (HS.out _ B1.out).mono ?_
      rintro e w2 ⟨rfl, hb2⟩
      have B2 : Hid (Below w.heap.size w w2) := bto B1.out hb2
      clear hb2 hc hf
      go_wp2
      go_ret
      exact ⟨ret_int E.out.symm, B2.out⟩
    · have e3 : szPairs (left - f.name.size - f.mets.length - pairBulk f.mets) f.sers = -1 := by unfold szPairs; rw [if_neg k3]
      rw [e3] at HS
      have E : Hid (szTen left f = -1) := by show _ = _; unfold szTen tenBulk; rw [if_neg]; omega
      clear p1 p2 hsm hlm hss hls e2 e3 k2 k3
      go_enter Try.func77, Try.ntmps77
      go_wp2_with fail
      refine (HM.out _ (bnew _ _)).mono ?_
      rintro e w1 ⟨rfl, hb1⟩
      have B1 : Hid (Below w.heap.size w w1) := bto (bnew _ _) hb1
      obtain ⟨hc, hf⟩ := bcell hb1
      clear hb1
      go_wp2_with fail
      refine (HS.out _ B1.out).mono ?_
      rintro e w2 ⟨rfl, hb2⟩
      have B2 : Hid (Below w.heap.size w w2) := bto B1.out hb2
      clear hb2 hc hf
      go_wp2
      go_ret
      exact ⟨ret_int E.out.symm, B2.out⟩
  · have e2 : szPairs (left - f.name.size) f.mets = -1 := by unfold szPairs; rw [if_neg k2]
    rw [e2] at HM
    have E : Hid (szTen left f = -1) := by show _ = _; unfold szTen tenBulk; rw [if_neg]; omega
    clear p1 p2 hsm hlm hss hls e2 k2
    go_enter Try.func77, Try.ntmps77
    go_wp2_with fail
    refine (HM.out _ (bnew _ _)).mono ?_
    rintro e w1 ⟨rfl, hb1⟩
    have B1 : Hid (Below w.heap.size w w1) := bto (bnew _ _) hb1
    clear hb1
    go_wp2
    go_ret
    exact ⟨ret_int E.out.symm, B1.out⟩

set_option maxRecDepth 100000 in
set_option maxHeartbeats 1000000 in
theorem szTenantS_any (a : Option Addr) (cap : Nat) (fs : List TenD) (left : Int) (w : World) (h0 : 0 ≤ left) (h1 : left ≤ 1048576) (hf : TensIn w a fs) (hs : ShortT fs) (hlen : fs.length ≤ maxLen) :
    Calls Try.prog 61 #[.slice a fs.length cap, .int .i64 left] w fun e w' => e = .returned (.int .i64 (szTens left fs)) ∧ Below w.heap.size w w' := by
  unfold maxLen at hlen
  by_cases c1 : left - fs.length < 0
  · have e : szTens left fs = -1 := by unfold szTens; rw [if_neg]; omega
    rw [e]
    clear hf hs
    go_enter Try.func61, Try.ntmps61
    go_wp2
    go_ret
    exact ⟨rfl, Below.refl _ _⟩
  · have hne : ¬ (left - fs.length < 0) := c1
    have HF : Hid (TensIn w a fs) := hf
    have HS : Hid (ShortT fs) := hs
    clear hf hs
    go_enter Try.func61, Try.ntmps61
    go_wp2
    go_loopw [1, 5] (fun l i wr => ∃ k : Nat, k ≤ fs.length ∧ i = .int .i64 k ∧ (tensBulk (fs.take k) : Int) ≤ left - fs.length ∧ l = .int .i64 (left - fs.length - tensBulk (fs.take k)) ∧ Below w.heap.size w wr) (fun _ i _ => fs.length - (intOf i).toNat)
    case atStart => exact ⟨0, Nat.zero_le _, rfl, by simp [tensBulk]; omega, by simp [tensBulk], Below.refl _ _⟩
    case round =>
      obtain ⟨k, hk, rfl, hle, rfl, hbel⟩ := hrel
      by_cases hlt : k < fs.length
      · obtain ⟨b, o, a1, q1, a2, q2, rfl, hb, c0, c1, c2, c3, p1, p2⟩ := (HF.out.later hbel).at hlt
        have hss := HS.out k hlt
        have hts := tensBulk_take_succ fs k hlt
        have htl := tensBulk_take_le fs (k + 1)
        have HC : Hid (∀ L : Int, 0 ≤ L → L ≤ 1048576 → Calls Try.prog 77 #[.agg #[.string fs[k].name, .int .i64 fs[k].limit, .slice a1 fs[k].mets.length q1, .slice a2 fs[k].sers.length q2], .int .i64 L] wr fun e w' => e = .returned (.int .i64 (szTen L fs[k])) ∧ Below wr.heap.size wr w') :=
          fun L g0 g1 => szTenant_any fs[k] a1 a2 q1 q2 L wr g0 g1 hss p1 p2
        clear p1 p2 hss
        by_cases c3 : (tenBulk fs[k] : Int) ≤ left - fs.length - tensBulk (fs.take k)
        · have E : Hid (szTen (left - fs.length - tensBulk (fs.take k)) fs[k] = left - fs.length - tensBulk (fs.take (k + 1))) := by
            show _ = _
            unfold szTen; rw [if_pos (by omega), hts]; omega
          have hle2 : (tensBulk (fs.take (k + 1)) : Int) ≤ left - fs.length := by omega
          clear hts
          go_wp2_with fail
          refine (HC.out _ (by omega) (by omega)).mono ?_
          rintro e w' ⟨rfl, hb2⟩
          rw [E.out]
          clear HC
          go_wp2
          exact ⟨⟨k + 1, by omega, by go_num, hle2, rfl, hbel.trans (hb2.mono hbel.size)⟩, by simp [intOf]; omega⟩
        · have E : Hid (szTen (left - fs.length - tensBulk (fs.take k)) fs[k] = -1) := by
            show _ = _
            unfold szTen; rw [if_neg (by omega)]
          have E2 : Hid (szTens left fs = -1) := by show szTens left fs = -1; unfold szTens; rw [if_neg (by omega)]
          clear hts
          go_wp2_with fail
          refine (HC.out _ (by omega) (by omega)).mono ?_
          rintro e w' ⟨rfl, hb2⟩
          rw [E.out]
          clear HC
          go_wp2
          go_ret
          exact ⟨ret_int E2.out.symm, hbel.trans (hb2.mono hbel.size)⟩
      · go_wp2
        go_ret
        have e : fs.take k = fs := List.take_of_length_le (by omega)
        rw [e] at hle ⊢
        exact ⟨ret_int (by unfold szTens; rw [if_pos (by omega)]), hbel⟩

set_option maxHeartbeats 1000000 in
theorem szState_any (a : Option Addr) (cap : Nat) (fs : List TenD) (now : Int) (left : Int) (w : World) (h0 : 0 ≤ left) (h1 : left ≤ 1048576) (hf : TensIn w a fs) (hs : ShortT fs) (hlen : fs.length ≤ maxLen) :
    Calls Try.prog 27 #[.agg #[.int .i64 now, .slice a fs.length cap], .int .i64 left] w fun e w' => e = .returned (.int .i64 (szTens left fs)) ∧ Below w.heap.size w w' := by
  have HC : Hid (∀ W, Below w.heap.size w W → Calls Try.prog 61 #[.slice a fs.length cap, .int .i64 left] W fun e w' => e = .returned (.int .i64 (szTens left fs)) ∧ Below W.heap.size W w') :=
    fun W hW => szTenantS_any a cap fs left W h0 h1 (hf.later hW) hs hlen
  clear hf hs
  by_cases c : (fs.length + tensBulk fs : Int) ≤ left
  · have e : szTens left fs = left - fs.length - tensBulk fs := by unfold szTens; rw [if_pos c]
    rw [e] at HC ⊢
    have hn : ¬ (left - fs.length - tensBulk fs < 0) := by omega
    generalize left - fs.length - tensBulk fs = L at *
    clear e
    go_enter Try.func27, Try.ntmps27
    go_wp2_with fail
    refine (HC.out _ (bnew _ _)).mono ?_
    rintro e w1 ⟨rfl, hb1⟩
    have B1 : Hid (Below w.heap.size w w1) := bto (bnew _ _) hb1
    clear hb1
    go_wp2
    go_ret
    exact ⟨rfl, B1.out⟩
  · have e : szTens left fs = -1 := by unfold szTens; rw [if_neg c]
    rw [e] at HC ⊢
    clear e
    go_enter Try.func27, Try.ntmps27
    go_wp2_with fail
    refine (HC.out _ (bnew _ _)).mono ?_
    rintro e w1 ⟨rfl, hb1⟩
    have B1 : Hid (Below w.heap.size w w1) := bto (bnew _ _) hb1
    clear hb1
    go_wp2
    go_ret
    exact ⟨rfl, B1.out⟩
end Go.Proofs.Ytgpgacncmoiefaa
