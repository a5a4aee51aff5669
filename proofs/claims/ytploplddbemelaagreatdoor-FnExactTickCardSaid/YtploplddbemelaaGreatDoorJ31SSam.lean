import Derived.Test.YtploplddbemelaaGreatDoorJ18SlmL
import Derived.Test.YtploplddbemelaaGreatDoorJ02LabB
import Derived.Test.YtploplddbemelaaGreatDoorJ25FitO
import Derived.Test.YtploplddbemelaaGreatDoorJ28LTell
import Derived.Test.YtploplddbemelaaGreatDoorJ30SWth
import Derived.Test.YtploplddbemelaaGreatDoorProg
import Derived.Test.YtploplddbemelaaGreatDoorJ22ITik
namespace Go.Proofs.YtploplddbemelaaGreatDoor
open Go.RowKit

/-- Only blocks outside of those from B on have turned. -/
theorem TensOwn.turned {S : Nat → Prop} {w w' : World} {B : Nat} {a : Option Addr} {ts : List TenD} (h : TensOwn w B a ts) (ht : Turn S w w') (hS : ∀ g, B ≤ g → g < w.heap.size → ¬ S g) : TensOwn w' B a ts := by
  rcases h with h | ⟨g, o, cur, t, T, rfl, hB, hg, hT, h⟩
  · exact Or.inl h
  · have hk := ht.block g (lt_of_block hg) (hS g hB (lt_of_block hg))
    exact Or.inr ⟨g, o, cur, t, T, rfl, hB, hk.trans hg, hT, fun i hi => (h i hi).keep (fun j _ => World.cell?_of_block hk) fun g' hg' hB' _ => ⟨ht.block g' hg' (hS g' hB' hg'), rfl⟩⟩
/-- A state and whether it was done. -/
def StOut (V : Int × List TenD × Bool) (w : World) (e : Ending) (w' : World) : Prop :=
  ∃ a cap, e = .returned (.tuple #[.agg #[.int .i64 V.1, .slice a V.2.1.length cap], .bool V.2.2]) ∧ TensOwn w' w.heap.size a V.2.1 ∧ Below w.heap.size w w'
/-- What every tenant of a state that is read is at most. -/
def FitS (x : TenD) : Prop := x.name.size ≤ 1048576 ∧ (∀ p ∈ x.mets, p.s.size ≤ 1048576) ∧ (∀ p ∈ x.sers, p.s.size ≤ 1048576) ∧ x.mets.length ≤ 1048577 ∧ x.sers.length ≤ 1048577
theorem fitS_of {ts : List TenD} (h : ts.length + tensBulk ts ≤ 1048576) : ∀ x ∈ ts, x.name.size ≤ 1048576 ∧ (∀ p ∈ x.mets, p.s.size ≤ 1048576) ∧ (∀ p ∈ x.sers, p.s.size ≤ 1048576) ∧ x.mets.length ≤ 1048576 ∧ x.sers.length ≤ 1048576 := by
  intro x hx
  obtain ⟨i, hi, rfl⟩ := List.getElem_of_mem hx
  have hb := tenBulk_at ts i hi
  unfold tenBulk at hb
  refine ⟨by omega, fun p hp => ?_, fun p hp => ?_, by omega, by omega⟩
  · obtain ⟨j, hj, rfl⟩ := List.getElem_of_mem hp
    have := pair_bulk_at _ j hj
    omega
  · obtain ⟨j, hj, rfl⟩ := List.getElem_of_mem hp
    have := pair_bulk_at _ j hj
    omega
theorem fitL_of {ts : List TenD} (h : ∀ x ∈ ts, FitS x) : FitL ts := fun x hx => by
  obtain ⟨h1, h2, h3, h4, h5⟩ := h x hx
  exact ⟨by unfold maxLen; omega, fun i hi => by have := h2 _ (List.getElem_mem hi); unfold maxLen; omega, fun i hi => by have := h3 _ (List.getElem_mem hi); unfold maxLen; omega, by omega, by omega⟩
theorem tenOf_fit {ts : List TenD} (h : ∀ x ∈ ts, x.name.size ≤ 1048576 ∧ (∀ p ∈ x.mets, p.s.size ≤ 1048576) ∧ (∀ p ∈ x.sers, p.s.size ≤ 1048576) ∧ x.mets.length ≤ 1048576 ∧ x.sers.length ≤ 1048576) {tenant : ByteArray} (hn : tenant.size ≤ 1048576) :
    (tenOf ts tenant).name.size ≤ 1048576 ∧ (∀ p ∈ (tenOf ts tenant).mets, p.s.size ≤ 1048576) ∧ (∀ p ∈ (tenOf ts tenant).sers, p.s.size ≤ 1048576) ∧ (tenOf ts tenant).mets.length ≤ 1048576 ∧ (tenOf ts tenant).sers.length ≤ 1048576 := by
  rcases tenOf_in (ts := ts) (name := tenant) with ⟨hm, _⟩ | ⟨e, _⟩
  · exact h _ hm
  · rw [e]
    exact ⟨hn, fun p hp => (by cases hp), fun p hp => (by cases hp), Nat.zero_le _, Nat.zero_le _⟩
theorem insBy_len_le {α : Type} {key : α → ByteArray} {a : α} (l : List α) : (insBy key a l).length ≤ l.length + 1 := by
  induction l with
  | nil => simp [insBy]
  | cons p r ih =>
    rw [insBy]
    split
    · simp only [List.length_cons]; omega
    · split <;> simp
theorem limT_fit {t : TenD} {metric : ByteArray} {limit : Int} (h : t.name.size ≤ 1048576 ∧ (∀ p ∈ t.mets, p.s.size ≤ 1048576) ∧ (∀ p ∈ t.sers, p.s.size ≤ 1048576) ∧ t.mets.length ≤ 1048576 ∧ t.sers.length ≤ 1048576) (hm : metric.size ≤ 1048576) : FitS (limT t metric limit) := by
  obtain ⟨h1, h2, h3, h4, h5⟩ := h
  unfold limT
  split
  · exact ⟨h1, h2, h3, Nat.le_succ_of_le h4, Nat.le_succ_of_le h5⟩
  · refine ⟨h1, fun p hp => ?_, h3, ?_, Nat.le_succ_of_le h5⟩
    · simp only at hp
      split at hp
      · exact h2 p (mem_delBy.1 hp).1
      · rcases insBy_mem hp with rfl | hp
        · exact hm
        · exact h2 p hp
    · simp only
      split
      · have : (delBy (·.s) metric t.mets).length ≤ t.mets.length := List.length_filter_le _ _
        omega
      · have := insBy_len_le (key := fun p : PairD => p.s) (a := ⟨metric, limit⟩) t.mets
        omega
theorem setL_fit {ts : List TenD} (h : ∀ x ∈ ts, x.name.size ≤ 1048576 ∧ (∀ p ∈ x.mets, p.s.size ≤ 1048576) ∧ (∀ p ∈ x.sers, p.s.size ≤ 1048576) ∧ x.mets.length ≤ 1048576 ∧ x.sers.length ≤ 1048576) {tenant metric : ByteArray} {limit : Int} (hn : tenant.size ≤ 1048576) (hm : metric.size ≤ 1048576) :
    (∀ x ∈ (setL ts tenant metric limit).1, FitS x) ∧ (setL ts tenant metric limit).1.length ≤ ts.length + 1 := by
  have h0 : ∀ x ∈ ts, FitS x := fun x hx => by
    obtain ⟨h1, h2, h3, h4, h5⟩ := h x hx
    exact ⟨h1, h2, h3, by omega, by omega⟩
  unfold setL
  split
  · exact ⟨h0, by simp⟩
  · split
    · refine ⟨fun x hx => h0 x (mem_delBy.1 hx).1, ?_⟩
      have : (delBy (·.name) tenant ts).length ≤ ts.length := List.length_filter_le _ _
      show (delBy (·.name) tenant ts).length ≤ _
      omega
    · split
      · exact ⟨h0, by simp⟩
      · refine ⟨fun x hx => ?_, insBy_len_le _⟩
        rcases insBy_mem hx with rfl | hx
        · exact limT_fit (tenOf_fit h hn) hm
        · exact h0 x hx
end Go.Proofs.YtploplddbemelaaGreatDoor

namespace Go.Proofs.YtploplddbemelaaGreatDoor
open Go.RowKit Go.Maps

theorem cfg_win {c : CfgD} (h : cfgB c = true) : 1 ≤ c.w ∧ c.w ≤ 1000000000 := by
  simp only [cfgB, Bool.and_eq_true] at h
  exact btw_in h.1.1.1.1.1
theorem kept_fit {win now : Int} {t : TenD} (h : t.name.size ≤ 1048576 ∧ (∀ p ∈ t.mets, p.s.size ≤ 1048576) ∧ (∀ p ∈ t.sers, p.s.size ≤ 1048576) ∧ t.mets.length ≤ 1048576 ∧ t.sers.length ≤ 1048576) : FitS (keptT win now t) := by
  obtain ⟨h1, h2, h3, h4, h5⟩ := h
  refine ⟨h1, h2, fun p hp => h3 p (List.mem_filter.1 hp).1, Nat.le_succ_of_le h4, ?_⟩
  have : (t.sers.filter fun p => decide (now - p.n < win)).length ≤ t.sers.length := List.length_filter_le _ _
  show (t.sers.filter fun p => decide (now - p.n < win)).length ≤ _
  omega
theorem tickL_fit {ts : List TenD} (h : ∀ x ∈ ts, x.name.size ≤ 1048576 ∧ (∀ p ∈ x.mets, p.s.size ≤ 1048576) ∧ (∀ p ∈ x.sers, p.s.size ≤ 1048576) ∧ x.mets.length ≤ 1048576 ∧ x.sers.length ≤ 1048576) {win now by_ : Int} :
    (∀ x ∈ (tickL win now ts by_).2.1, FitS x) ∧ (tickL win now ts by_).2.1.length ≤ ts.length := by
  unfold tickL
  split
  · refine ⟨fun x hx => ?_, Nat.le_refl _⟩
    obtain ⟨h1, h2, h3, h4, h5⟩ := h x hx
    exact ⟨h1, h2, h3, by omega, by omega⟩
  · refine ⟨fun x hx => ?_, ?_⟩
    · obtain ⟨t, ht, rfl⟩ := List.mem_map.1 (List.mem_filter.1 (show x ∈ keptTs win (now + by_) ts from hx)).1
      exact kept_fit (h t ht)
    · show (keptTs win (now + by_) ts).length ≤ _
      unfold keptTs
      have := List.length_filter_le (fun t => !idleB t) (ts.map (keptT win (now + by_)))
      rw [List.length_map] at this
      exact this
set_option maxRecDepth 100000 in
set_option maxHeartbeats 4000000 in
theorem implTick_any (c : CfgD) (now : Int) (a : Option Addr) (cap : Nat) (ts : List TenD) (by_ : Int) (w : World) (hf : TensIn w a ts) (hbk : ts.length + tensBulk ts ≤ 1048576) (hU : UTab w) :
    Calls Tryz.prog 14 #[cfgV c, .agg #[.int .i64 now, .slice a ts.length cap], .int .i64 by_] w fun e w' => StOut (tickV c now ts by_) w e w' := by
  obtain ⟨f1, f2, f3, f4⟩ := fit_of hbk
  have hfs := fitS_of hbk
  obtain ⟨hfl, hsl⟩ := tickL_fit hfs (win := c.w) (now := now) (by_ := by_)
  have HO : Hid (∀ W, Below w.heap.size w W → Calls Tryz.prog 43 #[cfgV c, .agg #[.int .i64 now, .slice a ts.length cap]] W fun e w' => OpenOut c now ts 1048576 W e w') := fun W hW => open_any c now a cap ts 1048576 W (hf.later hW) f1 (by omega) (hU.later hW)
  have HSL : Hid (∀ l m W0 W, stateB c now ts = true → Below w.heap.size w W0 → Below W0.heap.size W0 W → LedAt W W0.heap.size l m c now ts 1048576 → Calls Tryz.prog 46 #[.pointer (some ⟨l, 0, none⟩), .int .i64 by_] W fun e w' => e = .returned (.bool (tickL c.w now ts by_).2.2) ∧ LedAt w' W0.heap.size l m c (tickL c.w now ts by_).1 (tickL c.w now ts by_).2.1 1048576 ∧ Turn (fun g => W0.heap.size ≤ g) W w') := fun l m W0 W hs hW0 hW h => by
    obtain ⟨hcf, q0, q1, _, _⟩ := tens_of hs
    obtain ⟨v0, v1⟩ := cfg_win hcf
    exact ltick_any l m by_ c now ts 1048576 W0 W h hW (hU.later hW0) q0 q1 v0 v1 (by omega) (fun t ht => by have := (hfs t ht).2.2.2.2; omega) (fun t ht p hp => by have := (hfs t ht).2.2.1 p hp; omega)
  have HTL : Hid (∀ l m B W, LedAt W B l m c (tickL c.w now ts by_).1 (tickL c.w now ts by_).2.1 1048576 → Calls Tryz.prog 45 #[.pointer (some ⟨l, 0, none⟩)] W fun e w' => ∃ a cap, e = .returned (.agg #[.int .i64 (tickL c.w now ts by_).1, .slice a (tickL c.w now ts by_).2.1.length cap]) ∧ TensOwn w' W.heap.size a (tickL c.w now ts by_).2.1 ∧ Below W.heap.size W w') := fun l m B W h => ltell_any l m c _ B _ 1048576 W h (fitL_of hfl) (by omega)
  have HV0 : Hid (stateB c now ts = false → tickV c now ts by_ = (0, [], false)) := fun h => by unfold tickV; rw [if_pos h]
  have HV1 : Hid (stateB c now ts = true → tickV c now ts by_ = tickL c.w now ts by_) := fun h => tickL_eq h by_
  clear hf f1 f2 f3 f4 hfs hfl hU
  unfold OpenOut at HO
  unfold StOut
  generalize tickV c now ts by_ = V at *
  generalize tickL c.w now ts by_ = R at *
  unfold cfgV at *
  go_enter Tryz.func14, Tryz.ntmps14
  have B1 : Hid (Below w.heap.size w (((w.alloc (.cells #[.int .i64 c.w, .int .i64 c.tl, .int .i64 c.ml, .int .i64 c.sh, .int .i64 c.ha, .int .i64 c.sg] 24)).alloc (.cells #[.int .i64 now, .slice a ts.length cap] 41)).alloc (.cells #[.int .i64 0, .slice none 0 0] 41))) := bto (bto (bnew _ _) (bnew _ _)) (bnew _ _)
  have R1 : Hid (Blk (((w.alloc (.cells #[.int .i64 c.w, .int .i64 c.tl, .int .i64 c.ml, .int .i64 c.sh, .int .i64 c.ha, .int .i64 c.sg] 24)).alloc (.cells #[.int .i64 now, .slice a ts.length cap] 41)).alloc (.cells #[.int .i64 0, .slice none 0 0] 41)) (w.heap.size + 1 + 1) #[.int .i64 0, .slice none 0 0] 41) := hid (by have := Blk.new ((w.alloc (.cells #[.int .i64 c.w, .int .i64 c.tl, .int .i64 c.ml, .int .i64 c.sh, .int .i64 c.ha, .int .i64 c.sg] 24)).alloc (.cells #[.int .i64 now, .slice a ts.length cap] 41)) #[.int .i64 0, .slice none 0 0] 41; simpa using this)
  go_wp2_with fail
  refine (HO.out _ B1.out).mono ?_
  intro e w1 hx
  have HX := hid hx
  clear hx
  rcases HX.out with ⟨hs, rfl, hb⟩ | ⟨hs, l, m, rfl, hlo, hled, hb⟩
  · have HB : Hid (Below w.heap.size w w1) := bto B1.out hb
    have RB : Hid (Blk w1 (w.heap.size + 1 + 1) #[.int .i64 0, .slice none 0 0] 41) := R1.out.later hb
    have HV : Hid (V = (0, [], false)) := HV0.out hs
    have y0 : w1.cell? ⟨w.heap.size + 1 + 1, 0, none⟩ = some (.int .i64 0) := RB.out.cell 0
    have y1 : w1.cell? ⟨w.heap.size + 1 + 1, 1, none⟩ = some (.slice none 0 0) := RB.out.cell 1
    have f0 := RB.out.free 0
    have f1 := RB.out.free 1
    have hwl : w.heap.size + 1 + 1 < w1.heap.size := lt_of_block RB.out
    clear HX hb hs
    go_wp2
    refine bodyPost_ret (v := .tuple #[.agg #[.int .i64 0, .slice none 0 0], .bool false]) (by simp [results, Tryz.results14, go_sem, y0, y1]) rfl ?_
    rw [HV.out]
    refine ⟨none, 0, rfl, Or.inl rfl, ?_⟩
    first
      | exact (HB.out.setCell (by show w.heap.size ≤ w.heap.size + 1 + 1; omega) _).setCell (by show w.heap.size ≤ w.heap.size + 1 + 1; omega) _
      | exact HB.out
  · have HB : Hid (Below w.heap.size w w1) := bto B1.out hb
    have RB : Hid (Blk w1 (w.heap.size + 1 + 1) #[.int .i64 0, .slice none 0 0] 41) := R1.out.later hb
    have HV : Hid (V = R) := HV1.out hs
    have HSB := hid hs
    have HL := hid hled
    have hs1 := hb.size
    have HBW := hid hb
    have hs0 : w.heap.size + 1 + 1 < (((w.alloc (.cells #[.int .i64 c.w, .int .i64 c.tl, .int .i64 c.ml, .int .i64 c.sh, .int .i64 c.ha, .int .i64 c.sg] 24)).alloc (.cells #[.int .i64 now, .slice a ts.length cap] 41)).alloc (.cells #[.int .i64 0, .slice none 0 0] 41)).heap.size := lt_of_block R1.out
    generalize (((w.alloc (.cells #[.int .i64 c.w, .int .i64 c.tl, .int .i64 c.ml, .int .i64 c.sh, .int .i64 c.ha, .int .i64 c.sg] 24)).alloc (.cells #[.int .i64 now, .slice a ts.length cap] 41)).alloc (.cells #[.int .i64 0, .slice none 0 0] 41)) = w0 at *
    clear HX hb hs hled HO HV0 HV1
    go_wp2_with fail
    refine (HSL.out l m _ _ HSB.out B1.out HBW.out HL.out).mono ?_
    rintro e w2 ⟨rfl, hl2, ht2⟩
    have HL2 := hid hl2
    have R2 : Hid (Blk w2 (w.heap.size + 1 + 1) #[.int .i64 0, .slice none 0 0] 41) := ht2.blk RB.out (by omega)
    have B2 : Hid (Below w.heap.size w w2) := HB.out.trans (ht2.below (by omega) fun i hi e => by omega)
    clear hl2 ht2 HSL
    go_wp2_with fail
    refine (HTL.out l m _ _ HL2.out).mono ?_
    rintro e w3 ⟨ra, rc, rfl, ho3, hb3⟩
    have HO3 : Hid (TensOwn w3 w2.heap.size ra R.2.1) := ho3
    have R3 : Hid (Blk w3 (w.heap.size + 1 + 1) #[.int .i64 0, .slice none 0 0] 41) := R2.out.later hb3
    have B3 : Hid (Below w.heap.size w w3) := bto B2.out hb3
    have y0 : w3.cell? ⟨w.heap.size + 1 + 1, 0, none⟩ = some (.int .i64 0) := R3.out.cell 0
    have y1 : w3.cell? ⟨w.heap.size + 1 + 1, 1, none⟩ = some (.slice none 0 0) := R3.out.cell 1
    have f0 := R3.out.free 0
    have f1 := R3.out.free 1
    have hwl : w.heap.size + 1 + 1 < w3.heap.size := lt_of_block R3.out
    have hw2 : w.heap.size + 1 + 1 < w2.heap.size := lt_of_block R2.out
    clear ho3 hb3
    go_wp2
    have HTE : Turn (· = w.heap.size + 1 + 1) w3 ((w3.setCell ⟨w.heap.size + 1 + 1, 0, none⟩ (.int .i64 R.1)).setCell ⟨w.heap.size + 1 + 1, 1, none⟩ (.slice ra R.2.1.length rc)) := ((Turn.refl (· = w.heap.size + 1 + 1) w3).setCell (Or.inl rfl) 0 _).setCell (Or.inl rfl) 1 _
    refine bodyPost_ret (v := .tuple #[.agg #[.int .i64 R.1, .slice ra R.2.1.length rc], .bool R.2.2]) (by simp [results, Tryz.results14, go_sem, y0, y1]) rfl ?_
    rw [HV.out]
    have ho : TensOwn ((w3.setCell ⟨w.heap.size + 1 + 1, 0, none⟩ (.int .i64 R.1)).setCell ⟨w.heap.size + 1 + 1, 1, none⟩ (.slice ra R.2.1.length rc)) w.heap.size ra R.2.1 := (TensOwn.turned HO3.out HTE (fun g h1 h2 e => by omega)).mono (by omega)
    have hbe : Below w.heap.size w ((w3.setCell ⟨w.heap.size + 1 + 1, 0, none⟩ (.int .i64 R.1)).setCell ⟨w.heap.size + 1 + 1, 1, none⟩ (.slice ra R.2.1.length rc)) := ((Turn.of (S := fun i => w.heap.size ≤ i) B3.out).trans' (HTE.mono fun i _ e => by omega)).below (Nat.le_refl _) fun i hi h => by omega
    first
      | exact ⟨ra, ⟨rc, rfl⟩, ho, hbe⟩
      | exact ⟨ra, rc, rfl, ho, hbe⟩
end Go.Proofs.YtploplddbemelaaGreatDoor

namespace Go.Proofs.YtploplddbemelaaGreatDoor
open Go.RowKit

theorem names_ne {c : CfgD} {now : Int} {ts : List TenD} (h : stateB c now ts = true) : ∀ p ∈ ts, p.name ≠ ⟨#[]⟩ := fun p hp e => by
  have h1 := (ten_parts (tens_at (tens_of h).2.2.2.2 p hp)).1
  rw [e] at h1
  simp only [tnameB, Bool.and_eq_true, decide_eq_true_eq] at h1
  have h2 : (⟨#[]⟩ : ByteArray).size = 0 := rfl
  omega
theorem fitW_of {c : CfgD} {now : Int} {ts : List TenD} (h : stateB c now ts = true) (hb : ts.length + tensBulk ts ≤ 1048576) : ∀ x ∈ ts, FitW x := fun x hx => by
  obtain ⟨_, h0, h1, _, ht⟩ := tens_of h
  obtain ⟨_, _, _, h4, h5⟩ := fitS_of hb x hx
  refine ⟨by omega, by omega, fun i hi => ?_⟩
  have := sers_at (ten_parts (tens_at ht x hx)).2.2.1 _ (List.getElem_mem hi)
  omega
theorem same_all {c : CfgD} {now : Int} {ts : List TenD} (h : stateB c now ts = true) : keptTs c.w now (wAll ⟨⟨#[]⟩, 0, [], []⟩ true ts) = ts := by
  rw [wAll_placed (t := ⟨⟨#[]⟩, 0, [], []⟩) (names_ne h)]
  exact keptTs_same (tens_of h).2.2.2.2

set_option maxRecDepth 100000 in
set_option maxHeartbeats 2000000 in
theorem l4Same_any (c : CfgD) (now : Int) (a : Option Addr) (cap : Nat) (ts : List TenD) (w : World) (hf : TensIn w a ts) (hst : stateB c now ts = true) (hb : ts.length + tensBulk ts ≤ 1048576) :
    Calls Tryz.prog 60 #[cfgV c, .agg #[.int .i64 now, .slice a ts.length cap]] w fun e w' => ∃ a' cap', e = .returned (.agg #[.int .i64 now, .slice a' ts.length cap']) ∧ TensOwn w' w.heap.size a' ts ∧ Below w.heap.size w w' := by
  obtain ⟨_, hn0, hn1, _, _⟩ := tens_of hst
  have HW : Hid (∀ W, Below w.heap.size w W → Calls Tryz.prog 62 #[cfgV c, .agg #[.int .i64 now, .slice a ts.length cap], .int .i64 now, .agg #[.string ⟨#[]⟩, .int .i64 0, .slice none 0 0, .slice none 0 0]] W fun e w' => ∃ a' cap', e = .returned (.agg #[.int .i64 now, .slice a' ts.length cap']) ∧ TensOwn w' W.heap.size a' ts ∧ Below W.heap.size W w') := fun W hW => by
    have := l4With_any c now now a cap ts ⟨⟨#[]⟩, 0, [], []⟩ none none 0 0 W (hf.later hW) (Or.inl rfl) (Or.inl rfl) (by omega) (fun x hx => by
      rcases hx with rfl | hx
      · exact ⟨Nat.zero_le _, Nat.zero_le _, fun i h => absurd h (by simp)⟩
      · exact fitW_of hst hb x hx) hn0 (by omega)
    have e : (⟨⟨#[]⟩, 0, [], []⟩ : TenD).name.toList.isEmpty = true := by kernel_rfl
    rw [e, same_all hst] at this
    exact this
  clear hf hst hb
  unfold cfgV at *
  go_enter Tryz.func60, Tryz.ntmps60
  have B1 : Hid (Below w.heap.size w (((w.alloc (.cells #[.int .i64 c.w, .int .i64 c.tl, .int .i64 c.ml, .int .i64 c.sh, .int .i64 c.ha, .int .i64 c.sg] 24)).alloc (.cells #[.int .i64 now, .slice a ts.length cap] 41)).alloc (.cells #[.int .i64 0, .slice none 0 0] 41))) := bto (bto (bnew _ _) (bnew _ _)) (bnew _ _)
  have R1 : Hid (Blk (((w.alloc (.cells #[.int .i64 c.w, .int .i64 c.tl, .int .i64 c.ml, .int .i64 c.sh, .int .i64 c.ha, .int .i64 c.sg] 24)).alloc (.cells #[.int .i64 now, .slice a ts.length cap] 41)).alloc (.cells #[.int .i64 0, .slice none 0 0] 41)) (w.heap.size + 1 + 1) #[.int .i64 0, .slice none 0 0] 41) := hid (by have := Blk.new ((w.alloc (.cells #[.int .i64 c.w, .int .i64 c.tl, .int .i64 c.ml, .int .i64 c.sh, .int .i64 c.ha, .int .i64 c.sg] 24)).alloc (.cells #[.int .i64 now, .slice a ts.length cap] 41)) #[.int .i64 0, .slice none 0 0] 41; simpa using this)
  go_wp2_with fail
  refine (HW.out _ B1.out).mono ?_
  rintro e w3 ⟨ra, rc, rfl, ho3, hb3⟩
  have HO3 : Hid (TensOwn w3 (w.heap.size + 1 + 1 + 1) ra ts) := hid (by simpa using ho3)
  have R3 : Hid (Blk w3 (w.heap.size + 1 + 1) #[.int .i64 0, .slice none 0 0] 41) := R1.out.later hb3
  have B3 : Hid (Below w.heap.size w w3) := bto B1.out hb3
  have y0 : w3.cell? ⟨w.heap.size + 1 + 1, 0, none⟩ = some (.int .i64 0) := R3.out.cell 0
  have y1 : w3.cell? ⟨w.heap.size + 1 + 1, 1, none⟩ = some (.slice none 0 0) := R3.out.cell 1
  have f0 := R3.out.free 0
  have f1 := R3.out.free 1
  have hwl : w.heap.size + 1 + 1 < w3.heap.size := lt_of_block R3.out
  clear ho3 hb3
  go_wp2
  have HTE : Turn (· = w.heap.size + 1 + 1) w3 ((w3.setCell ⟨w.heap.size + 1 + 1, 0, none⟩ (.int .i64 now)).setCell ⟨w.heap.size + 1 + 1, 1, none⟩ (.slice ra ts.length rc)) := ((Turn.refl (· = w.heap.size + 1 + 1) w3).setCell (Or.inl rfl) 0 _).setCell (Or.inl rfl) 1 _
  have ho : TensOwn ((w3.setCell ⟨w.heap.size + 1 + 1, 0, none⟩ (.int .i64 now)).setCell ⟨w.heap.size + 1 + 1, 1, none⟩ (.slice ra ts.length rc)) w.heap.size ra ts := (TensOwn.turned HO3.out HTE (fun g h1 h2 e => by omega)).mono (by omega)
  have hbe : Below w.heap.size w ((w3.setCell ⟨w.heap.size + 1 + 1, 0, none⟩ (.int .i64 now)).setCell ⟨w.heap.size + 1 + 1, 1, none⟩ (.slice ra ts.length rc)) := ((Turn.of (S := fun i => w.heap.size ≤ i) B3.out).trans' (HTE.mono fun i _ e => by omega)).below (Nat.le_refl _) fun i hi h => by omega
  refine bodyPost_ret (v := .agg #[.int .i64 now, .slice ra ts.length rc]) (by simp [results, Tryz.results60, go_sem, y0, y1]) rfl ?_
  first
    | exact ⟨ra, ⟨rc, rfl⟩, ho, hbe⟩
    | exact ⟨ra, rc, rfl, ho, hbe⟩
end Go.Proofs.YtploplddbemelaaGreatDoor

