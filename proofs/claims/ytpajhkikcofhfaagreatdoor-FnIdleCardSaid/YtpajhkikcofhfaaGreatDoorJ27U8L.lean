import Derived.Test.YtpajhkikcofhfaaGreatDoorProg
import Derived.Test.YtpajhkikcofhfaaGreatDoorJ26ITik
import Derived.Test.YtpajhkikcofhfaaGreatDoorJ24HeapD
import Derived.Test.YtpajhkikcofhfaaGreatDoorJ05HpM
import Derived.Test.YtpajhkikcofhfaaGreatDoorJ18IAdS
import Derived.Test.YtpajhkikcofhfaaGreatDoorJ01Own
import Derived.Test.YtpajhkikcofhfaaGreatDoorJ06IdxM
namespace Go.Proofs.YtpajhkikcofhfaaGreatDoor
open Go.RowKit Go.Maps

theorem cfg_win {c : CfgD} (h : cfgB c = true) : 1 ≤ c.w ∧ c.w ≤ 1000000000 := by
  simp only [cfgB, Bool.and_eq_true] at h
  exact btw_in h.1.1.1.1.1
theorem kept_fit {win now : Int} {t : TenD} (h : t.name.size ≤ 1048576 ∧ (∀ p ∈ t.mets, p.s.size ≤ 1048576) ∧ (∀ p ∈ t.sers, p.s.size ≤ 1048576) ∧ t.mets.length ≤ 1048576 ∧ t.sers.length ≤ 1048576) : FitS (keptT win now t) := by
  obtain ⟨h1, h2, h3, h4, h5⟩ := h
  refine ⟨h1, h2, fun p hp => h3 p (List.mem_filter.1 hp).1, Nat.le_succ_of_le h4, ?_⟩
  have : (t.sers.filter fun p => decide (now - p.n < win)).length ≤ t.sers.length := List.length_filter_le _ _
  show (t.sers.filter fun p => decide (now - p.n < win)).length ≤ _
  omega
theorem tickL_fit {ts : List TenD} (h : ∀ x ∈ ts, x.name.size ≤ 1048576 ∧ (∀ p ∈ x.mets, p.s.size ≤ 1048576) ∧ (∀ p ∈ x.sers, p.s.size ≤ 1048576) ∧ x.mets.length ≤ 1048576 ∧ x.sers.length ≤ 1048576) {win now by_ : Int} :
    (∀ x ∈ (tickL win now ts by_).2.1, FitS x) ∧ (tickL win now ts by_).2.1.length ≤ ts.length := by
  unfold tickL
  split
  · refine ⟨fun x hx => ?_, Nat.le_refl _⟩
    obtain ⟨h1, h2, h3, h4, h5⟩ := h x hx
    exact ⟨h1, h2, h3, by omega, by omega⟩
  · refine ⟨fun x hx => ?_, ?_⟩
    · obtain ⟨t, ht, rfl⟩ := List.mem_map.1 (List.mem_filter.1 (show x ∈ keptTs win (now + by_) ts from hx)).1
      exact kept_fit (h t ht)
    · show (keptTs win (now + by_) ts).length ≤ _
      unfold keptTs
      have := List.length_filter_le (fun t => !idleB t) (ts.map (keptT win (now + by_)))
      rw [List.length_map] at this
      exact this
set_option maxRecDepth 100000 in
set_option maxHeartbeats 4000000 in
theorem implTick_any (c : CfgD) (now : Int) (a : Option Addr) (cap : Nat) (ts : List TenD) (by_ : Int) (w : World) (hf : TensIn w a ts) (hbk : ts.length + tensBulk ts ≤ 1048576) (hU : UTab w) :
    Calls Tryz.prog 9 #[cfgV c, .agg #[.int .i64 now, .slice a ts.length cap], .int .i64 by_] w fun e w' => StOut (tickV c now ts by_) w e w' := by
  obtain ⟨f1, f2, f3, f4⟩ := fit_of hbk
  have hfs := fitS_of hbk
  obtain ⟨hfl, hsl⟩ := tickL_fit hfs (win := c.w) (now := now) (by_ := by_)
  have HO : Hid (∀ W, Below w.heap.size w W → Calls Tryz.prog 21 #[cfgV c, .agg #[.int .i64 now, .slice a ts.length cap]] W fun e w' => OpenOut c now ts 1048576 W e w') := fun W hW => open_any c now a cap ts 1048576 W (hf.later hW) f1 (by omega) (hU.later hW)
  have HSL : Hid (∀ l m W0 W, stateB c now ts = true → Below w.heap.size w W0 → Below W0.heap.size W0 W → LedAt W W0.heap.size l m c now ts 1048576 → Calls Tryz.prog 24 #[.pointer (some ⟨l, 0, none⟩), .int .i64 by_] W fun e w' => e = .returned (.bool (tickL c.w now ts by_).2.2) ∧ LedAt w' W0.heap.size l m c (tickL c.w now ts by_).1 (tickL c.w now ts by_).2.1 1048576 ∧ Turn (fun g => W0.heap.size ≤ g) W w') := fun l m W0 W hs hW0 hW h => by
    obtain ⟨hcf, q0, q1, _, _⟩ := tens_of hs
    obtain ⟨v0, v1⟩ := cfg_win hcf
    exact ltick_any l m by_ c now ts 1048576 W0 W h hW (hU.later hW0) q0 q1 v0 v1 (by omega) (fun t ht => by have := (hfs t ht).2.2.2.2; omega) (fun t ht p hp => by have := (hfs t ht).2.2.1 p hp; omega)
  have HTL : Hid (∀ l m B W, LedAt W B l m c (tickL c.w now ts by_).1 (tickL c.w now ts by_).2.1 1048576 → Calls Tryz.prog 23 #[.pointer (some ⟨l, 0, none⟩)] W fun e w' => ∃ a cap, e = .returned (.agg #[.int .i64 (tickL c.w now ts by_).1, .slice a (tickL c.w now ts by_).2.1.length cap]) ∧ TensOwn w' W.heap.size a (tickL c.w now ts by_).2.1 ∧ Below W.heap.size W w') := fun l m B W h => ltell_any l m c _ B _ 1048576 W h (fitL_of hfl) (by omega)
  have HV0 : Hid (stateB c now ts = false → tickV c now ts by_ = (0, [], false)) := fun h => by unfold tickV; rw [if_pos h]
  have HV1 : Hid (stateB c now ts = true → tickV c now ts by_ = tickL c.w now ts by_) := fun h => tickL_eq h by_
  clear hf f1 f2 f3 f4 hfs hfl hU
  unfold OpenOut at HO
  unfold StOut
  generalize tickV c now ts by_ = V at *
  generalize tickL c.w now ts by_ = R at *
  unfold cfgV at *
  go_enter Tryz.func9, Tryz.ntmps9
  have B1 : Hid (Below w.heap.size w (((w.alloc (.cells #[.int .i64 c.w, .int .i64 c.tl, .int .i64 c.ml, .int .i64 c.sh, .int .i64 c.ha, .int .i64 c.sg] 24)).alloc (.cells #[.int .i64 now, .slice a ts.length cap] 41)).alloc (.cells #[.int .i64 0, .slice none 0 0] 41))) := bto (bto (bnew _ _) (bnew _ _)) (bnew _ _)
  have R1 : Hid (Blk (((w.alloc (.cells #[.int .i64 c.w, .int .i64 c.tl, .int .i64 c.ml, .int .i64 c.sh, .int .i64 c.ha, .int .i64 c.sg] 24)).alloc (.cells #[.int .i64 now, .slice a ts.length cap] 41)).alloc (.cells #[.int .i64 0, .slice none 0 0] 41)) (w.heap.size + 1 + 1) #[.int .i64 0, .slice none 0 0] 41) := hid (by have := Blk.new ((w.alloc (.cells #[.int .i64 c.w, .int .i64 c.tl, .int .i64 c.ml, .int .i64 c.sh, .int .i64 c.ha, .int .i64 c.sg] 24)).alloc (.cells #[.int .i64 now, .slice a ts.length cap] 41)) #[.int .i64 0, .slice none 0 0] 41; simpa using this)
  go_wp2_with fail
  refine (HO.out _ B1.out).mono ?_
  intro e w1 hx
  have HX := hid hx
  clear hx
  rcases HX.out with ⟨hs, rfl, hb⟩ | ⟨hs, l, m, rfl, hlo, hled, hb⟩
  · have HB : Hid (Below w.heap.size w w1) := bto B1.out hb
    have RB : Hid (Blk w1 (w.heap.size + 1 + 1) #[.int .i64 0, .slice none 0 0] 41) := R1.out.later hb
    have HV : Hid (V = (0, [], false)) := HV0.out hs
    have y0 : w1.cell? ⟨w.heap.size + 1 + 1, 0, none⟩ = some (.int .i64 0) := RB.out.cell 0
    have y1 : w1.cell? ⟨w.heap.size + 1 + 1, 1, none⟩ = some (.slice none 0 0) := RB.out.cell 1
    have f0 := RB.out.free 0
    have f1 := RB.out.free 1
    have hwl : w.heap.size + 1 + 1 < w1.heap.size := lt_of_block RB.out
    clear HX hb hs
    go_wp2
    refine bodyPost_ret (v := .tuple #[.agg #[.int .i64 0, .slice none 0 0], .bool false]) (by simp [results, Tryz.results9, go_sem, y0, y1]) rfl ?_
    rw [HV.out]
    refine ⟨none, 0, rfl, Or.inl rfl, ?_⟩
    first
      | exact (HB.out.setCell (by show w.heap.size ≤ w.heap.size + 1 + 1; omega) _).setCell (by show w.heap.size ≤ w.heap.size + 1 + 1; omega) _
      | exact HB.out
  · have HB : Hid (Below w.heap.size w w1) := bto B1.out hb
    have RB : Hid (Blk w1 (w.heap.size + 1 + 1) #[.int .i64 0, .slice none 0 0] 41) := R1.out.later hb
    have HV : Hid (V = R) := HV1.out hs
    have HSB := hid hs
    have HL := hid hled
    have hs1 := hb.size
    have HBW := hid hb
    have hs0 : w.heap.size + 1 + 1 < (((w.alloc (.cells #[.int .i64 c.w, .int .i64 c.tl, .int .i64 c.ml, .int .i64 c.sh, .int .i64 c.ha, .int .i64 c.sg] 24)).alloc (.cells #[.int .i64 now, .slice a ts.length cap] 41)).alloc (.cells #[.int .i64 0, .slice none 0 0] 41)).heap.size := lt_of_block R1.out
    generalize (((w.alloc (.cells #[.int .i64 c.w, .int .i64 c.tl, .int .i64 c.ml, .int .i64 c.sh, .int .i64 c.ha, .int .i64 c.sg] 24)).alloc (.cells #[.int .i64 now, .slice a ts.length cap] 41)).alloc (.cells #[.int .i64 0, .slice none 0 0] 41)) = w0 at *
    clear HX hb hs hled HO HV0 HV1
    go_wp2_with fail
    refine (HSL.out l m _ _ HSB.out B1.out HBW.out HL.out).mono ?_
    rintro e w2 ⟨rfl, hl2, ht2⟩
    have HL2 := hid hl2
    have R2 : Hid (Blk w2 (w.heap.size + 1 + 1) #[.int .i64 0, .slice none 0 0] 41) := ht2.blk RB.out (by omega)
    have B2 : Hid (Below w.heap.size w w2) := HB.out.trans (ht2.below (by omega) fun i hi e => by omega)
    clear hl2 ht2 HSL
    go_wp2_with fail
    refine (HTL.out l m _ _ HL2.out).mono ?_
    rintro e w3 ⟨ra, rc, rfl, ho3, hb3⟩
    have HO3 : Hid (TensOwn w3 w2.heap.size ra R.2.1) := ho3
    have R3 : Hid (Blk w3 (w.heap.size + 1 + 1) #[.int .i64 0, .slice none 0 0] 41) := R2.out.later hb3
    have B3 : Hid (Below w.heap.size w w3) := bto B2.out hb3
    have y0 : w3.cell? ⟨w.heap.size + 1 + 1, 0, none⟩ = some (.int .i64 0) := R3.out.cell 0
    have y1 : w3.cell? ⟨w.heap.size + 1 + 1, 1, none⟩ = some (.slice none 0 0) := R3.out.cell 1
    have f0 := R3.out.free 0
    have f1 := R3.out.free 1
    have hwl : w.heap.size + 1 + 1 < w3.heap.size := lt_of_block R3.out
    have hw2 : w.heap.size + 1 + 1 < w2.heap.size := lt_of_block R2.out
    clear ho3 hb3
    go_wp2
    have HTE : Turn (· = w.heap.size + 1 + 1) w3 ((w3.setCell ⟨w.heap.size + 1 + 1, 0, none⟩ (.int .i64 R.1)).setCell ⟨w.heap.size + 1 + 1, 1, none⟩ (.slice ra R.2.1.length rc)) := ((Turn.refl (· = w.heap.size + 1 + 1) w3).setCell (Or.inl rfl) 0 _).setCell (Or.inl rfl) 1 _
    refine bodyPost_ret (v := .tuple #[.agg #[.int .i64 R.1, .slice ra R.2.1.length rc], .bool R.2.2]) (by simp [results, Tryz.results9, go_sem, y0, y1]) rfl ?_
    rw [HV.out]
    have ho : TensOwn ((w3.setCell ⟨w.heap.size + 1 + 1, 0, none⟩ (.int .i64 R.1)).setCell ⟨w.heap.size + 1 + 1, 1, none⟩ (.slice ra R.2.1.length rc)) w.heap.size ra R.2.1 := (TensOwn.turned HO3.out HTE (fun g h1 h2 e => by omega)).mono (by omega)
    have hbe : Below w.heap.size w ((w3.setCell ⟨w.heap.size + 1 + 1, 0, none⟩ (.int .i64 R.1)).setCell ⟨w.heap.size + 1 + 1, 1, none⟩ (.slice ra R.2.1.length rc)) := ((Turn.of (S := fun i => w.heap.size ≤ i) B3.out).trans' (HTE.mono fun i _ e => by omega)).below (Nat.le_refl _) fun i hi h => by omega
    first
      | exact ⟨ra, ⟨rc, rfl⟩, ho, hbe⟩
      | exact ⟨ra, rc, rfl, ho, hbe⟩
end Go.Proofs.YtpajhkikcofhfaaGreatDoor

namespace Go.Proofs.YtpajhkikcofhfaaGreatDoor
open Go.RowKit

theorem oneBulk (key : ByteArray) (l : Int) : [oneT key l].length + tensBulk [oneT key l] = 6 + key.size := by
  simp [tensBulk, tenBulk, oneT, pairBulk, acmeN]
  show 1 + (4 + (1 + key.size)) = _
  omega
/-- The config of FnIdle. -/
def cfgI (W sh ha sg : Int) : CfgD := ⟨W, 3, 3, sh, ha, sg⟩
theorem cfgI_ok {W sh ha sg : Int} (hW : 2 ≤ W ∧ W ≤ 51) (h1 : 1 ≤ sh ∧ sh ≤ 5) (h2 : 0 ≤ ha ∧ ha ≤ 2) (h3 : 100 ≤ sg ∧ sg ≤ 299) : cfgB (cfgI W sh ha sg) = true := by
  have e : ∀ x lo hi : Int, lo ≤ x → x ≤ hi → btwB x lo hi = true := fun x lo hi h1 h2 => by simp [btwB, h1, h2]
  simp only [cfgB, cfgI]
  rw [e _ _ _ (by omega) (by omega), e _ _ _ (by omega) (by omega), e _ _ _ (by omega) (by omega), e _ _ _ (by omega) (by omega), e _ _ _ (by omega) (by omega)]
  rfl
theorem idl_new {W sh ha sg : Int} {key : ByteArray} (hc : cfgB (cfgI W sh ha sg) = true) (hk : keyOK key = true) (hz : key.size ≤ 100000) (w : World) (hU : UTab w) : Calls Tryz.prog 8 #[.agg #[.int .i64 W, .int .i64 3, .int .i64 3, .int .i64 sh, .int .i64 ha, .int .i64 sg], .agg #[.int .i64 0, .slice none 0 0], .string ⟨#[97, 99, 109, 101]⟩, .string key] w fun e w' => ∃ a cap, e = .returned (.tuple #[.agg #[.int .i64 0, .slice a 1 cap], .int .i64 2]) ∧ TensIn w' a [oneT key 0] ∧ Below w.heap.size w w' := by
  refine (implAdmit_any (cfgI W sh ha sg) 0 none 0 [] acmeN key w (Or.inl rfl) (by simp [tensBulk]) hU (by decide) (by omega)).mono ?_
  rw [admit_new hc rfl rfl hk]
  rintro e w' ⟨a, cap, rfl, ho, hb⟩
  exact ⟨a, cap, rfl, ho.tens, hb⟩
theorem idl_early {W sh ha sg : Int} {key : ByteArray} (hc : cfgB (cfgI W sh ha sg) = true) (hW : 2 ≤ W ∧ W ≤ 51) (hk : keyOK key = true) (hz : key.size ≤ 100000) (a : Option Addr) (cap : Nat) (w : World) (h : TensIn w a [oneT key 0]) (hU : UTab w) : Calls Tryz.prog 9 #[.agg #[.int .i64 W, .int .i64 3, .int .i64 3, .int .i64 sh, .int .i64 ha, .int .i64 sg], .agg #[.int .i64 0, .slice a 1 cap], .int .i64 (W - 1)] w fun e w' => ∃ a cap, e = .returned (.tuple #[.agg #[.int .i64 (W - 1), .slice a 1 cap], .bool true]) ∧ TensIn w' a [oneT key 0] ∧ Below w.heap.size w w' := by
  refine (implTick_any (cfgI W sh ha sg) 0 a cap [oneT key 0] (W - 1) w h (by rw [oneBulk]; omega) hU).mono ?_
  rw [tick_keep hc hk (by omega) (by omega) (by simp only [cfgI]; omega) (by omega) (by omega) (by omega) (by simp only [cfgI]; omega), Int.zero_add]
  rintro e w' ⟨a, cap, rfl, ho, hb⟩
  exact ⟨a, cap, rfl, ho.tens, hb⟩
theorem idl_count1 {W sh ha sg : Int} {key : ByteArray} (hc : cfgB (cfgI W sh ha sg) = true) (hW : 2 ≤ W ∧ W ≤ 51) (hk : keyOK key = true) (hz : key.size ≤ 100000) (a : Option Addr) (cap : Nat) (w : World) (h : TensIn w a [oneT key 0]) (hU : UTab w) : Calls Tryz.prog 10 #[.agg #[.int .i64 W, .int .i64 3, .int .i64 3, .int .i64 sh, .int .i64 ha, .int .i64 sg], .agg #[.int .i64 (W - 1), .slice a 1 cap], .string ⟨#[97, 99, 109, 101]⟩, .string ⟨#[]⟩] w fun e w' => e = .returned (.tuple #[.int .i64 1, .int .i64 3]) ∧ Below w.heap.size w w' := by
  have hb : [oneT key 0].length + tensBulk [oneT key 0] ≤ 1048576 := by rw [oneBulk]; omega
  refine (implCountOf_any (cfgI W sh ha sg) (W - 1) a cap [oneT key 0] acmeN ⟨#[]⟩ _ w h (fit_of hb).1 (by simp) hU (by decide) (by decide)).mono ?_
  have e := count_all (c := cfgI W sh ha sg) (now := W - 1) (l := 0) hc rfl hk (by omega) (by omega) (by simp only [cfgI]; omega) (by omega)
  rw [show (⟨#[]⟩ : ByteArray) = ByteArray.empty from rfl, e]
  exact fun e w' h => h
theorem idl_seen {W sh ha sg : Int} {key : ByteArray} (hc : cfgB (cfgI W sh ha sg) = true) (hW : 2 ≤ W ∧ W ≤ 51) (hk : keyOK key = true) (hz : key.size ≤ 100000) (a : Option Addr) (cap : Nat) (w : World) (h : TensIn w a [oneT key 0]) (hU : UTab w) : Calls Tryz.prog 8 #[.agg #[.int .i64 W, .int .i64 3, .int .i64 3, .int .i64 sh, .int .i64 ha, .int .i64 sg], .agg #[.int .i64 (W - 1), .slice a 1 cap], .string ⟨#[97, 99, 109, 101]⟩, .string key] w fun e w' => ∃ a cap, e = .returned (.tuple #[.agg #[.int .i64 (W - 1), .slice a 1 cap], .int .i64 1]) ∧ TensIn w' a [oneT key (W - 1)] ∧ Below w.heap.size w w' := by
  refine (implAdmit_any (cfgI W sh ha sg) (W - 1) a cap [oneT key 0] acmeN key w h (by rw [oneBulk]; omega) hU (by decide) (by omega)).mono ?_
  rw [admit_known hc hk (by omega) (by omega) (by simp only [cfgI]; omega) (by omega)]
  rintro e w' ⟨a, cap, rfl, ho, hb⟩
  exact ⟨a, cap, rfl, ho.tens, hb⟩
theorem idl_late {W sh ha sg : Int} {key : ByteArray} (hc : cfgB (cfgI W sh ha sg) = true) (hW : 2 ≤ W ∧ W ≤ 51) (hk : keyOK key = true) (hz : key.size ≤ 100000) (a : Option Addr) (cap : Nat) (w : World) (h : TensIn w a [oneT key 0]) (hU : UTab w) : Calls Tryz.prog 9 #[.agg #[.int .i64 W, .int .i64 3, .int .i64 3, .int .i64 sh, .int .i64 ha, .int .i64 sg], .agg #[.int .i64 (W - 1), .slice a 1 cap], .int .i64 1] w fun e w' => ∃ a cap, e = .returned (.tuple #[.agg #[.int .i64 W, .slice a 0 cap], .bool true]) ∧ Below w.heap.size w w' := by
  refine (implTick_any (cfgI W sh ha sg) (W - 1) a cap [oneT key 0] 1 w h (by rw [oneBulk]; omega) hU).mono ?_
  rw [tick_gone hc hk (by omega) (by omega) (by simp only [cfgI]; omega) (by omega) (by omega) (by omega) (by simp only [cfgI]; omega), show W - 1 + 1 = W by omega]
  rintro e w' ⟨a, cap, rfl, ho, hb⟩
  exact ⟨a, cap, rfl, hb⟩
theorem idl_count2 {W sh ha sg : Int} (hc : cfgB (cfgI W sh ha sg) = true) (hW : 2 ≤ W ∧ W ≤ 51) (a : Option Addr) (cap : Nat) (w : World) (hU : UTab w) : Calls Tryz.prog 10 #[.agg #[.int .i64 W, .int .i64 3, .int .i64 3, .int .i64 sh, .int .i64 ha, .int .i64 sg], .agg #[.int .i64 W, .slice a 0 cap], .string ⟨#[97, 99, 109, 101]⟩, .string ⟨#[]⟩] w fun e w' => e = .returned (.tuple #[.int .i64 0, .int .i64 3]) ∧ Below w.heap.size w w' := by
  refine (implCountOf_any (cfgI W sh ha sg) W a cap [] acmeN ⟨#[]⟩ 0 w (Or.inl rfl) (fun i h => absurd h (by simp)) (by simp) hU (by decide) (by decide)).mono ?_
  have e := count_none (c := cfgI W sh ha sg) (now := W) hc rfl (by omega) (by omega)
  rw [show (⟨#[]⟩ : ByteArray) = ByteArray.empty from rfl, e]
  exact fun e w' h => h
theorem idl_kept {W sh ha sg : Int} {key : ByteArray} (hc : cfgB (cfgI W sh ha sg) = true) (hW : 2 ≤ W ∧ W ≤ 51) (hk : keyOK key = true) (hz : key.size ≤ 100000) (a : Option Addr) (cap : Nat) (w : World) (h : TensIn w a [oneT key (W - 1)]) (hU : UTab w) : Calls Tryz.prog 9 #[.agg #[.int .i64 W, .int .i64 3, .int .i64 3, .int .i64 sh, .int .i64 ha, .int .i64 sg], .agg #[.int .i64 (W - 1), .slice a 1 cap], .int .i64 (W - 1)] w fun e w' => ∃ a cap, e = .returned (.tuple #[.agg #[.int .i64 (2 * W - 2), .slice a 1 cap], .bool true]) ∧ TensIn w' a [oneT key (W - 1)] ∧ Below w.heap.size w w' := by
  refine (implTick_any (cfgI W sh ha sg) (W - 1) a cap [oneT key (W - 1)] (W - 1) w h (by rw [oneBulk]; omega) hU).mono ?_
  rw [tick_keep hc hk (by omega) (by omega) (by simp only [cfgI]; omega) (by omega) (by omega) (by omega) (by simp only [cfgI]; omega), show W - 1 + (W - 1) = 2 * W - 2 by omega]
  rintro e w' ⟨a, cap, rfl, ho, hb⟩
  exact ⟨a, cap, rfl, ho.tens, hb⟩
theorem idl_count3 {W sh ha sg : Int} {key : ByteArray} (hc : cfgB (cfgI W sh ha sg) = true) (hW : 2 ≤ W ∧ W ≤ 51) (hk : keyOK key = true) (hm : mnameB (metK key) = true) (hz : key.size ≤ 100000) (a : Option Addr) (cap : Nat) (w : World) (h : TensIn w a [oneT key (W - 1)]) (hU : UTab w) (hmz : (metK key).size ≤ 1048576) : Calls Tryz.prog 10 #[.agg #[.int .i64 W, .int .i64 3, .int .i64 3, .int .i64 sh, .int .i64 ha, .int .i64 sg], .agg #[.int .i64 (2 * W - 2), .slice a 1 cap], .string ⟨#[97, 99, 109, 101]⟩, .string (metK key)] w fun e w' => e = .returned (.tuple #[.int .i64 1, .int .i64 3]) ∧ Below w.heap.size w w' := by
  have hb : [oneT key (W - 1)].length + tensBulk [oneT key (W - 1)] ≤ 1048576 := by rw [oneBulk]; omega
  refine (implCountOf_any (cfgI W sh ha sg) (2 * W - 2) a cap [oneT key (W - 1)] acmeN (metK key) _ w h (fit_of hb).1 (by simp) hU (by decide) hmz).mono ?_
  rw [count_met (c := cfgI W sh ha sg) (now := 2 * W - 2) (l := W - 1) hc rfl hk hm (by omega) (by omega) (by simp only [cfgI]; omega) (by omega)]
  exact fun e w' h => h
theorem idl_gone {W sh ha sg : Int} {key : ByteArray} (hc : cfgB (cfgI W sh ha sg) = true) (hW : 2 ≤ W ∧ W ≤ 51) (hk : keyOK key = true) (hz : key.size ≤ 100000) (a : Option Addr) (cap : Nat) (w : World) (h : TensIn w a [oneT key (W - 1)]) (hU : UTab w) : Calls Tryz.prog 9 #[.agg #[.int .i64 W, .int .i64 3, .int .i64 3, .int .i64 sh, .int .i64 ha, .int .i64 sg], .agg #[.int .i64 (2 * W - 2), .slice a 1 cap], .int .i64 1] w fun e w' => ∃ a cap, e = .returned (.tuple #[.agg #[.int .i64 (2 * W - 1), .slice a 0 cap], .bool true]) ∧ Below w.heap.size w w' := by
  refine (implTick_any (cfgI W sh ha sg) (2 * W - 2) a cap [oneT key (W - 1)] 1 w h (by rw [oneBulk]; omega) hU).mono ?_
  rw [tick_gone hc hk (by omega) (by omega) (by simp only [cfgI]; omega) (by omega) (by omega) (by omega) (by simp only [cfgI]; omega), show 2 * W - 2 + 1 = 2 * W - 1 by omega]
  rintro e w' ⟨a, cap, rfl, ho, hb⟩
  exact ⟨a, cap, rfl, hb⟩
end Go.Proofs.YtpajhkikcofhfaaGreatDoor

namespace Go.Proofs.YtpajhkikcofhfaaGreatDoor
open Go.RowKit

/-- What an element is in the row's cells, and what it has in the blocks lo .. hi - 1. -/
structure KindZ (α : Type) where
  m : Nat
  cells : α → List Value
  len : ∀ a, (cells a).length = m
  part : World → Nat → Nat → α → Prop
  keep : ∀ {w w' : World} {lo hi : Nat} {a : α}, part w lo hi a → w.heap.size ≤ w'.heap.size → (∀ g, lo ≤ g → g < hi → g < w.heap.size → w'.heap[g]? = w.heap[g]?) → part w' lo hi a
  wide : ∀ {w : World} {lo hi lo' hi' : Nat} {a : α}, part w lo hi a → lo' ≤ lo → hi ≤ hi' → part w lo' hi' a
def KindZ.flat {α : Type} (K : KindZ α) (ys : List α) : List Value := ys.flatMap K.cells
theorem KindZ.flat_append {α : Type} (K : KindZ α) (a b : List α) : K.flat (a ++ b) = K.flat a ++ K.flat b := by simp [KindZ.flat]
theorem KindZ.flat_get {α : Type} (K : KindZ α) : ∀ (l : List α) (i : Nat) (hi : i < l.length) (j : Nat), j < K.m → (K.flat l)[i * K.m + j]? = (K.cells l[i])[j]? := by
  intro l
  unfold KindZ.flat
  induction l with
  | nil => intro i hi; exact absurd hi (by simp)
  | cons x r ih =>
    intro i hi j hj
    cases i with
    | zero =>
      simp only [List.flatMap_cons, Nat.zero_mul, Nat.zero_add, List.getElem_cons_zero]
      rw [List.getElem?_append_left (by rw [K.len]; exact hj)]
    | succ i =>
      have := ih i (by simpa using hi) j hj
      simp only [List.flatMap_cons, List.getElem_cons_succ]
      have hlen := K.len x
      have e : (i + 1) * K.m + j - (K.cells x).length = i * K.m + j := by rw [hlen, Nat.succ_mul]; omega
      rw [List.getElem?_append_right (by rw [hlen, Nat.succ_mul]; omega), e]
      exact this
/-- A row of its own, from block b on; each element's memory lies apart from it. -/
def RowZ {α : Type} (K : KindZ α) (w : World) (b : Nat) (e : TypeId) (v : Value) (n : Nat) (ys : List α) : Prop :=
  w.ownsRow b e K.m v n (K.flat ys) ∧ ys.length = n ∧ ∀ y ∈ ys, ∃ lo hi, b ≤ lo ∧ hi ≤ w.heap.size ∧ (∀ g, v.ownBlock = some g → g < lo ∨ hi ≤ g) ∧ K.part w lo hi y
theorem RowZ.nil {α : Type} (K : KindZ α) (w : World) (b : Nat) (e : TypeId) : RowZ K w b e (.slice none 0 0) 0 [] :=
  ⟨World.ownsRow_nil _ _ _ _, rfl, fun y hy => by cases hy⟩
theorem RowZ.row {α : Type} {K : KindZ α} {w : World} {b : Nat} {e : TypeId} {v : Value} {n : Nat} {ys : List α} (h : RowZ K w b e v n ys) : ∃ a c, v = .slice a n c := by
  rcases h.1.2 with ⟨rfl, rfl⟩ | ⟨g, cap, cur, rfl, _⟩
  · exact ⟨none, 0, rfl⟩
  · exact ⟨_, _, rfl⟩
theorem RowZ.lt {α : Type} {K : KindZ α} {w : World} {b : Nat} {e : TypeId} {v : Value} {n : Nat} {ys : List α} (h : RowZ K w b e v n ys) : ∀ g, v.ownBlock = some g → b ≤ g ∧ g < w.heap.size := fun g hg => h.1.lt g hg
theorem RowZ.turn {α : Type} {K : KindZ α} {w w' : World} {S : Nat → Prop} {b : Nat} {e : TypeId} {v : Value} {n : Nat} {ys : List α} (h : RowZ K w b e v n ys) (ht : Turn S w w') (hS : ∀ g, S g → g < b) : RowZ K w' b e v n ys := by
  obtain ⟨h1, h2, h3⟩ := h
  refine ⟨ht.row h1 (fun g hg e => by have := (h1.lt g hg).1; have := hS g e; omega), h2, fun y hy => ?_⟩
  obtain ⟨lo, hi, hb, hh, ho, hp⟩ := h3 y hy
  exact ⟨lo, hi, hb, Nat.le_trans hh ht.size, ho, K.keep hp ht.size fun g hg _ hgw => ht.block g hgw (fun e => by have := hS g e; omega)⟩
theorem RowZ.but {α : Type} {K : KindZ α} {w w' : World} {B b : Nat} {e : TypeId} {v : Value} {n : Nat} {ys : List α} (h : RowZ K w b e v n ys) (ht : But B w w') (hB : B < b) : RowZ K w' b e v n ys :=
  h.turn (Turn.but ht) (fun g hg => by rw [hg]; exact hB)
theorem RowZ.later {α : Type} {K : KindZ α} {w w' : World} {b : Nat} {e : TypeId} {v : Value} {n : Nat} {ys : List α} (h : RowZ K w b e v n ys) (hb : Below w.heap.size w w') : RowZ K w' b e v n ys :=
  h.turn (Turn.of hb (S := fun _ => False)) (fun _ hg => hg.elim)
/-- One element more: its memory was made between wr and w4. -/
theorem RowZ.snoc {α : Type} {K : KindZ α} {wr w4 w6 : World} {b gg cap k : Nat} {e : TypeId} {v : Value} {ys : List α} {y : α}
    (hrow : w6.ownsRow b e K.m (.slice (some ⟨gg, 0, none⟩) (k + 1) cap) (k + 1) (K.flat ys ++ K.cells y))
    (h : RowZ K wr b e v k ys) (hb : b ≤ wr.heap.size) (h46 : w4.heap.size ≤ w6.heap.size) (h4r : wr.heap.size ≤ w4.heap.size)
    (hk0 : ∀ g, g < wr.heap.size → b ≤ g → v.ownBlock ≠ some g → w6.heap[g]? = wr.heap[g]?) (hk4 : ∀ g, wr.heap.size ≤ g → g < w4.heap.size → w6.heap[g]? = w4.heap[g]?)
    (h1 : K.part w4 wr.heap.size w4.heap.size y)
    (hgg : (v.ownBlock = some gg ∧ gg < wr.heap.size) ∨ w4.heap.size ≤ gg) : RowZ K w6 b e (.slice (some ⟨gg, 0, none⟩) (k + 1) cap) (k + 1) (ys ++ [y]) := by
  obtain ⟨q1, q2, q3⟩ := h
  refine ⟨?_, by rw [List.length_append, q2]; rfl, fun z hz => ?_⟩
  · rw [K.flat_append]
    have e : K.flat [y] = K.cells y := by simp [KindZ.flat]
    rw [e]
    exact hrow
  · rcases List.mem_append.1 hz with hz | hz
    · obtain ⟨lo, hi, hlo, hhi, ho, hp⟩ := q3 z hz
      refine ⟨lo, hi, hlo, by omega, fun g hg => ?_, K.keep hp (by omega) fun g hg hgh hgw => hk0 g hgw (by omega) (fun e => by have := ho g e; omega)⟩
      simp only [Value.ownBlock, Option.some.injEq] at hg
      subst hg
      rcases hgg with ⟨h, hl⟩ | h
      · exact ho _ h
      · exact Or.inr (by omega)
    · rw [List.mem_singleton] at hz
      subst hz
      refine ⟨wr.heap.size, w4.heap.size, hb, h46, fun g hg => ?_, K.keep h1 h46 fun g hg hgh _ => hk4 g hg hgh⟩
      simp only [Value.ownBlock, Option.some.injEq] at hg
      subst hg
      rcases hgg with ⟨_, hl⟩ | h
      · exact Or.inl hl
      · exact Or.inr h
/-- The elements lie at a slice's address, their memory in the blocks lo .. hi - 1. -/
def InZ {α : Type} (K : KindZ α) (w : World) (lo hi : Nat) (a : Option Addr) (ys : List α) : Prop :=
  ys = [] ∨ ∃ g, a = some ⟨g, 0, none⟩ ∧ lo ≤ g ∧ g < hi ∧ g < w.heap.size ∧ ∀ i (h : i < ys.length), (∀ j, j < K.m → w.cell? ⟨g, i * K.m + j, none⟩ = (K.cells ys[i])[j]?) ∧ K.part w lo hi ys[i]
theorem InZ.keep {α : Type} {K : KindZ α} {w w' : World} {lo hi : Nat} {a : Option Addr} {ys : List α} (h : InZ K w lo hi a ys) (hs : w.heap.size ≤ w'.heap.size) (hk : ∀ g, lo ≤ g → g < hi → g < w.heap.size → w'.heap[g]? = w.heap[g]?) : InZ K w' lo hi a ys := by
  rcases h with h | ⟨g, rfl, h1, h2, h3, h⟩
  · exact Or.inl h
  · refine Or.inr ⟨g, rfl, h1, h2, by omega, fun i hi => ⟨fun j hj => ?_, K.keep (h i hi).2 hs hk⟩⟩
    rw [World.cell?_of_block (hk g h1 h2 h3)]
    exact (h i hi).1 j hj
theorem InZ.wide {α : Type} {K : KindZ α} {w : World} {lo hi lo' hi' : Nat} {a : Option Addr} {ys : List α} (h : InZ K w lo hi a ys) (h1 : lo' ≤ lo) (h2 : hi ≤ hi') : InZ K w lo' hi' a ys := by
  rcases h with h | ⟨g, rfl, q1, q2, q3, h⟩
  · exact Or.inl h
  · exact Or.inr ⟨g, rfl, by omega, by omega, q3, fun i hi => ⟨(h i hi).1, K.wide (h i hi).2 h1 h2⟩⟩
theorem InZ.later {α : Type} {K : KindZ α} {w w' : World} {lo hi : Nat} {a : Option Addr} {ys : List α} (h : InZ K w lo hi a ys) (hb : Below w.heap.size w w') : InZ K w' lo hi a ys :=
  h.keep hb.size fun g _ _ hg => hb.block g hg
theorem InZ.at {α : Type} {K : KindZ α} {w : World} {lo hi : Nat} {a : Option Addr} {ys : List α} (h : InZ K w lo hi a ys) {i : Nat} (hi' : i < ys.length) :
    ∃ g, a = some ⟨g, 0, none⟩ ∧ g < w.heap.size ∧ (∀ j, j < K.m → w.cell? ⟨g, i * K.m + j, none⟩ = (K.cells ys[i])[j]?) ∧ K.part w lo hi ys[i] := by
  rcases h with rfl | ⟨g, rfl, q1, q2, q3, h⟩
  · exact absurd hi' (by simp)
  · exact ⟨g, rfl, q3, (h i hi').1, (h i hi').2⟩
theorem RowZ.out {α : Type} {K : KindZ α} {w : World} {b : Nat} {e : TypeId} {a : Option Addr} {n cap : Nat} {ys : List α} (h : RowZ K w b e (.slice a n cap) n ys) : InZ K w b w.heap.size a ys := by
  obtain ⟨h1, h2, h3⟩ := h
  rcases h1.2 with ⟨_, hl⟩ | ⟨g, cap', cur, he, hB, hg, _, _, hsz, htk⟩
  · exact Or.inl (List.length_eq_zero_iff.1 (by omega))
  · simp only [Value.slice.injEq] at he
    have hlt := lt_of_block hg
    refine Or.inr ⟨g, he.1, hB, hlt, hlt, fun i hi => ⟨fun j hj => ?_, ?_⟩⟩
    · have hij : i * K.m + j < n * K.m := by
        have : (i + 1) * K.m ≤ n * K.m := Nat.mul_le_mul_right _ (by omega)
        rw [Nat.succ_mul] at this
        omega
      rw [Blk.cell (show Blk w g cur e from hg) _, ← Array.getElem?_toList, ← List.getElem?_take_of_lt hij, htk]
      exact K.flat_get ys i hi j hj
    · obtain ⟨lo, hi', hlo, hhi, _, hp⟩ := h3 _ (List.getElem_mem hi)
      exact K.wide hp hlo hhi
end Go.Proofs.YtpajhkikcofhfaaGreatDoor

namespace Go.Proofs.YtpajhkikcofhfaaGreatDoor
open Go.RowKit

/-- The address holds n bytes, in a block below P that is not B. -/
def U8In (w : World) (B P : Nat) (a : Option Addr) (n : Nat) : Prop := n = 0 ∨ ∃ b o, a = some ⟨b, o, none⟩ ∧ b ≠ B ∧ b < P ∧ ∀ i, i < n → ∃ v : Nat, v < 256 ∧ w.cell? ⟨b, o + i, none⟩ = some (.int .u8 (v : Nat))
theorem U8In.but {w w' : World} {B P n : Nat} {a : Option Addr} (h : U8In w B P a n) (hP : P ≤ w.heap.size) (hb : But B w w') : U8In w' B P a n := by
  rcases h with h | ⟨b, o, e, hne, hlt, h⟩
  · exact Or.inl h
  · exact Or.inr ⟨b, o, e, hne, hlt, fun i hi => by
      obtain ⟨v, hv, hc⟩ := h i hi
      exact ⟨v, hv, by rw [World.cell?_of_block (hb.block b (by omega) hne)]; exact hc⟩⟩
theorem U8In.below {w w' : World} {B P n : Nat} {a : Option Addr} (h : U8In w B P a n) (hb : Below P w w') : U8In w' B P a n := by
  rcases h with h | ⟨b, o, e, hne, hlt, h⟩
  · exact Or.inl h
  · exact Or.inr ⟨b, o, e, hne, hlt, fun i hi => by
      obtain ⟨v, hv, hc⟩ := h i hi
      exact ⟨v, hv, by rw [World.cell?_of_block (hb.block b hlt)]; exact hc⟩⟩
theorem U8In.up {w w' : World} {B P P' n : Nat} {a : Option Addr} (h : U8In w B P a n) (hb : Below P w w') (hP : P ≤ P') : U8In w' P' P' a n := by
  rcases h with h | ⟨b, o, e, hne, hlt, h⟩
  · exact Or.inl h
  · exact Or.inr ⟨b, o, e, by omega, by omega, fun i hi => by
      obtain ⟨v, hv, hc⟩ := h i hi
      exact ⟨v, hv, by rw [World.cell?_of_block (hb.block b hlt)]; exact hc⟩⟩
end Go.Proofs.YtpajhkikcofhfaaGreatDoor

