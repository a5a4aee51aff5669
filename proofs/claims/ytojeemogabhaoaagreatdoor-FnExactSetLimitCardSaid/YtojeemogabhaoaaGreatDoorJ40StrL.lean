import Derived.Test.YtojeemogabhaoaaGreatDoorJ33SlmL
import Derived.Test.YtojeemogabhaoaaGreatDoorJ02Ord
import Derived.Test.YtojeemogabhaoaaGreatDoorJ24CfgT
import Derived.Test.YtojeemogabhaoaaGreatDoorJ37LTell
import Derived.Test.YtojeemogabhaoaaGreatDoorJ39SWth
import Derived.Test.YtojeemogabhaoaaGreatDoorProg
import Derived.Test.YtojeemogabhaoaaGreatDoorJ34ISlm
import Derived.Test.YtojeemogabhaoaaGreatDoorJ38WthL
import Derived.Test.YtojeemogabhaoaaGreatDoorJ29SCnt
namespace Go.Proofs.YtojeemogabhaoaaGreatDoor
open Go.RowKit
theorem TensOwn.turned {S : Nat → Prop} {w w' : World} {B : Nat} {a : Option Addr} {ts : List TenD} (h : TensOwn w B a ts) (ht : Turn S w w') (hS : ∀ g, B ≤ g → g < w.heap.size → ¬ S g) : TensOwn w' B a ts := by
  rcases h with h | ⟨g, o, cur, t, T, rfl, hB, hg, hT, h⟩
  · exact Or.inl h
  · have hk := ht.block g (lt_of_block hg) (hS g hB (lt_of_block hg))
    exact Or.inr ⟨g, o, cur, t, T, rfl, hB, hk.trans hg, hT, fun i hi => (h i hi).keep (fun j _ => World.cell?_of_block hk) fun g' hg' hB' _ => ⟨ht.block g' hg' (hS g' hB' hg'), rfl⟩⟩
def StOut (V : Int × List TenD × Bool) (w : World) (e : Ending) (w' : World) : Prop :=
  ∃ a cap, e = .returned (.tuple #[.agg #[.int .i64 V.1, .slice a V.2.1.length cap], .bool V.2.2]) ∧ TensOwn w' w.heap.size a V.2.1 ∧ Below w.heap.size w w'
def FitS (x : TenD) : Prop := x.name.size ≤ 1048576 ∧ (∀ p ∈ x.mets, p.s.size ≤ 1048576) ∧ (∀ p ∈ x.sers, p.s.size ≤ 1048576) ∧ x.mets.length ≤ 1048577 ∧ x.sers.length ≤ 1048577
theorem fitS_of {ts : List TenD} (h : ts.length + tensBulk ts ≤ 1048576) : ∀ x ∈ ts, x.name.size ≤ 1048576 ∧ (∀ p ∈ x.mets, p.s.size ≤ 1048576) ∧ (∀ p ∈ x.sers, p.s.size ≤ 1048576) ∧ x.mets.length ≤ 1048576 ∧ x.sers.length ≤ 1048576 := by
  intro x hx
  obtain ⟨i, hi, rfl⟩ := List.getElem_of_mem hx
  have hb := tenBulk_at ts i hi
  unfold tenBulk at hb
  refine ⟨by omega, fun p hp => ?_, fun p hp => ?_, by omega, by omega⟩
  · obtain ⟨j, hj, rfl⟩ := List.getElem_of_mem hp
    have := pair_bulk_at _ j hj
    omega
  · obtain ⟨j, hj, rfl⟩ := List.getElem_of_mem hp
    have := pair_bulk_at _ j hj
    omega
theorem fitL_of {ts : List TenD} (h : ∀ x ∈ ts, FitS x) : FitL ts := fun x hx => by
  obtain ⟨h1, h2, h3, h4, h5⟩ := h x hx
  exact ⟨by unfold maxLen; omega, fun i hi => by have := h2 _ (List.getElem_mem hi); unfold maxLen; omega, fun i hi => by have := h3 _ (List.getElem_mem hi); unfold maxLen; omega, by omega, by omega⟩
theorem tenOf_fit {ts : List TenD} (h : ∀ x ∈ ts, x.name.size ≤ 1048576 ∧ (∀ p ∈ x.mets, p.s.size ≤ 1048576) ∧ (∀ p ∈ x.sers, p.s.size ≤ 1048576) ∧ x.mets.length ≤ 1048576 ∧ x.sers.length ≤ 1048576) {tenant : ByteArray} (hn : tenant.size ≤ 1048576) :
    (tenOf ts tenant).name.size ≤ 1048576 ∧ (∀ p ∈ (tenOf ts tenant).mets, p.s.size ≤ 1048576) ∧ (∀ p ∈ (tenOf ts tenant).sers, p.s.size ≤ 1048576) ∧ (tenOf ts tenant).mets.length ≤ 1048576 ∧ (tenOf ts tenant).sers.length ≤ 1048576 := by
  rcases tenOf_in (ts := ts) (name := tenant) with ⟨hm, _⟩ | ⟨e, _⟩
  · exact h _ hm
  · rw [e]
    exact ⟨hn, fun p hp => (by cases hp), fun p hp => (by cases hp), Nat.zero_le _, Nat.zero_le _⟩
theorem insBy_len_le {α : Type} {key : α → ByteArray} {a : α} (l : List α) : (insBy key a l).length ≤ l.length + 1 := by
  induction l with
  | nil => simp [insBy]
  | cons p r ih =>
    rw [insBy]
    split
    · simp only [List.length_cons]; omega
    · split <;> simp
theorem limT_fit {t : TenD} {metric : ByteArray} {limit : Int} (h : t.name.size ≤ 1048576 ∧ (∀ p ∈ t.mets, p.s.size ≤ 1048576) ∧ (∀ p ∈ t.sers, p.s.size ≤ 1048576) ∧ t.mets.length ≤ 1048576 ∧ t.sers.length ≤ 1048576) (hm : metric.size ≤ 1048576) : FitS (limT t metric limit) := by
  obtain ⟨h1, h2, h3, h4, h5⟩ := h
  unfold limT
  split
  · exact ⟨h1, h2, h3, Nat.le_succ_of_le h4, Nat.le_succ_of_le h5⟩
  · refine ⟨h1, fun p hp => ?_, h3, ?_, Nat.le_succ_of_le h5⟩
    · simp only at hp
      split at hp
      · exact h2 p (mem_delBy.1 hp).1
      · rcases insBy_mem hp with rfl | hp
        · exact hm
        · exact h2 p hp
    · simp only
      split
      · have : (delBy (·.s) metric t.mets).length ≤ t.mets.length := List.length_filter_le _ _
        omega
      · have := insBy_len_le (key := fun p : PairD => p.s) (a := ⟨metric, limit⟩) t.mets
        omega
theorem setL_fit {ts : List TenD} (h : ∀ x ∈ ts, x.name.size ≤ 1048576 ∧ (∀ p ∈ x.mets, p.s.size ≤ 1048576) ∧ (∀ p ∈ x.sers, p.s.size ≤ 1048576) ∧ x.mets.length ≤ 1048576 ∧ x.sers.length ≤ 1048576) {tenant metric : ByteArray} {limit : Int} (hn : tenant.size ≤ 1048576) (hm : metric.size ≤ 1048576) :
    (∀ x ∈ (setL ts tenant metric limit).1, FitS x) ∧ (setL ts tenant metric limit).1.length ≤ ts.length + 1 := by
  have h0 : ∀ x ∈ ts, FitS x := fun x hx => by
    obtain ⟨h1, h2, h3, h4, h5⟩ := h x hx
    exact ⟨h1, h2, h3, by omega, by omega⟩
  unfold setL
  split
  · exact ⟨h0, by simp⟩
  · split
    · refine ⟨fun x hx => h0 x (mem_delBy.1 hx).1, ?_⟩
      have : (delBy (·.name) tenant ts).length ≤ ts.length := List.length_filter_le _ _
      show (delBy (·.name) tenant ts).length ≤ _
      omega
    · split
      · exact ⟨h0, by simp⟩
      · refine ⟨fun x hx => ?_, insBy_len_le _⟩
        rcases insBy_mem hx with rfl | hx
        · exact limT_fit (tenOf_fit h hn) hm
        · exact h0 x hx
end Go.Proofs.YtojeemogabhaoaaGreatDoor
namespace Go.Proofs.YtojeemogabhaoaaGreatDoor
open Go.RowKit Go.Maps
set_option maxRecDepth 100000 in
set_option maxHeartbeats 4000000 in
theorem implSetLimit_any (c : CfgD) (now : Int) (a : Option Addr) (cap : Nat) (ts : List TenD) (tenant metric : ByteArray) (limit : Int) (w : World) (hf : TensIn w a ts) (hbk : ts.length + tensBulk ts ≤ 1048576) (hU : UTab w) (hn : tenant.size ≤ 1048576) (hm : metric.size ≤ 1048576) :
    Calls Tryz.prog 16 #[cfgV c, .agg #[.int .i64 now, .slice a ts.length cap], .string tenant, .string metric, .int .i64 limit] w fun e w' => StOut (setLimV c now ts tenant metric limit) w e w' := by
  obtain ⟨f1, f2, f3, f4⟩ := fit_of hbk
  have hfs := fitS_of hbk
  obtain ⟨hfl, hsl⟩ := setL_fit (limit := limit) hfs hn hm
  have HO : Hid (∀ W, Below w.heap.size w W → Calls Tryz.prog 32 #[cfgV c, .agg #[.int .i64 now, .slice a ts.length cap]] W fun e w' => OpenOut c now ts 1048576 W e w') := fun W hW => open_any c now a cap ts 1048576 W (hf.later hW) f1 (by omega) (hU.later hW)
  have HSL : Hid (∀ l m B W, Below w.heap.size w W → B ≤ W.heap.size → LedAt W B l m c now ts 1048576 → Calls Tryz.prog 42 #[.pointer (some ⟨l, 0, none⟩), .string tenant, .string metric, .int .i64 limit] W fun e w' => e = .returned (.bool (setL ts tenant metric limit).2) ∧ LedAt w' B l m c now (setL ts tenant metric limit).1 1048576 ∧ Turn (fun g => B ≤ g) W w') := fun l m B W hW hB h => lsetLimit_any l m tenant metric limit c now B ts 1048576 W h hB (hU.later hW) hn hm (fun t ht => by have := (hfs t ht).2.2.2.1; omega) (by omega)
  have HTL : Hid (∀ l m B W, LedAt W B l m c now (setL ts tenant metric limit).1 1048576 → Calls Tryz.prog 43 #[.pointer (some ⟨l, 0, none⟩)] W fun e w' => ∃ a cap, e = .returned (.agg #[.int .i64 now, .slice a (setL ts tenant metric limit).1.length cap]) ∧ TensOwn w' W.heap.size a (setL ts tenant metric limit).1 ∧ Below W.heap.size W w') := fun l m B W h => ltell_any l m c now B _ 1048576 W h (fitL_of hfl) (by omega)
  have HV0 : Hid (stateB c now ts = false → setLimV c now ts tenant metric limit = (0, [], false)) := fun h => by unfold setLimV; rw [if_pos h]
  have HV1 : Hid (stateB c now ts = true → setLimV c now ts tenant metric limit = (now, (setL ts tenant metric limit).1, (setL ts tenant metric limit).2)) := fun h => setL_eq h tenant metric limit
  clear hf f1 f2 f3 f4 hfs hfl hU
  unfold OpenOut at HO
  unfold StOut
  generalize setLimV c now ts tenant metric limit = V at *
  generalize setL ts tenant metric limit = R at *
  unfold cfgV at *
  go_enter Tryz.func16, Tryz.ntmps16
  have B1 : Hid (Below w.heap.size w (((w.alloc (.cells #[.int .i64 c.w, .int .i64 c.tl, .int .i64 c.ml, .int .i64 c.sh, .int .i64 c.ha, .int .i64 c.sg] 29)).alloc (.cells #[.int .i64 now, .slice a ts.length cap] 33)).alloc (.cells #[.int .i64 0, .slice none 0 0] 33))) := bto (bto (bnew _ _) (bnew _ _)) (bnew _ _)
  have R1 : Hid (Blk (((w.alloc (.cells #[.int .i64 c.w, .int .i64 c.tl, .int .i64 c.ml, .int .i64 c.sh, .int .i64 c.ha, .int .i64 c.sg] 29)).alloc (.cells #[.int .i64 now, .slice a ts.length cap] 33)).alloc (.cells #[.int .i64 0, .slice none 0 0] 33)) (w.heap.size + 1 + 1) #[.int .i64 0, .slice none 0 0] 33) := hid (by have := Blk.new ((w.alloc (.cells #[.int .i64 c.w, .int .i64 c.tl, .int .i64 c.ml, .int .i64 c.sh, .int .i64 c.ha, .int .i64 c.sg] 29)).alloc (.cells #[.int .i64 now, .slice a ts.length cap] 33)) #[.int .i64 0, .slice none 0 0] 33; simpa using this)
  go_wp2_with fail
  refine (HO.out _ B1.out).mono ?_
  intro e w1 hx
  have HX := hid hx
  clear hx
  rcases HX.out with ⟨hs, rfl, hb⟩ | ⟨hs, l, m, rfl, hlo, hled, hb⟩
  · have HB : Hid (Below w.heap.size w w1) := bto B1.out hb
    have RB : Hid (Blk w1 (w.heap.size + 1 + 1) #[.int .i64 0, .slice none 0 0] 33) := R1.out.later hb
    have HV : Hid (V = (0, [], false)) := HV0.out hs
    have y0 : w1.cell? ⟨w.heap.size + 1 + 1, 0, none⟩ = some (.int .i64 0) := RB.out.cell 0
    have y1 : w1.cell? ⟨w.heap.size + 1 + 1, 1, none⟩ = some (.slice none 0 0) := RB.out.cell 1
    have f0 := RB.out.free 0
    have f1 := RB.out.free 1
    have hwl : w.heap.size + 1 + 1 < w1.heap.size := lt_of_block RB.out
    clear HX hb hs
    go_wp2
    refine bodyPost_ret (v := .tuple #[.agg #[.int .i64 0, .slice none 0 0], .bool false]) (by simp [results, Tryz.results16, go_sem, y0, y1]) rfl ?_
    rw [HV.out]
    refine ⟨none, 0, rfl, Or.inl rfl, ?_⟩
    first
      | exact (HB.out.setCell (by show w.heap.size ≤ w.heap.size + 1 + 1; omega) _).setCell (by show w.heap.size ≤ w.heap.size + 1 + 1; omega) _
      | exact HB.out
  · have HB : Hid (Below w.heap.size w w1) := bto B1.out hb
    have RB : Hid (Blk w1 (w.heap.size + 1 + 1) #[.int .i64 0, .slice none 0 0] 33) := R1.out.later hb
    have HV : Hid (V = (now, R.1, R.2)) := HV1.out hs
    have HL := hid hled
    have hs1 := hb.size
    have hs0 : w.heap.size + 1 + 1 < (((w.alloc (.cells #[.int .i64 c.w, .int .i64 c.tl, .int .i64 c.ml, .int .i64 c.sh, .int .i64 c.ha, .int .i64 c.sg] 29)).alloc (.cells #[.int .i64 now, .slice a ts.length cap] 33)).alloc (.cells #[.int .i64 0, .slice none 0 0] 33)).heap.size := lt_of_block R1.out
    generalize (((w.alloc (.cells #[.int .i64 c.w, .int .i64 c.tl, .int .i64 c.ml, .int .i64 c.sh, .int .i64 c.ha, .int .i64 c.sg] 29)).alloc (.cells #[.int .i64 now, .slice a ts.length cap] 33)).alloc (.cells #[.int .i64 0, .slice none 0 0] 33)) = w0 at *
    clear HX hb hs hled HO HV0 HV1
    go_wp2_with fail
    refine (HSL.out l m _ _ HB.out hs1 HL.out).mono ?_
    rintro e w2 ⟨rfl, hl2, ht2⟩
    have HL2 := hid hl2
    have R2 : Hid (Blk w2 (w.heap.size + 1 + 1) #[.int .i64 0, .slice none 0 0] 33) := ht2.blk RB.out (by omega)
    have B2 : Hid (Below w.heap.size w w2) := HB.out.trans (ht2.below (by omega) fun i hi e => by omega)
    clear hl2 ht2 HSL
    go_wp2_with fail
    refine (HTL.out l m _ _ HL2.out).mono ?_
    rintro e w3 ⟨ra, rc, rfl, ho3, hb3⟩
    have HO3 : Hid (TensOwn w3 w2.heap.size ra R.1) := ho3
    have R3 : Hid (Blk w3 (w.heap.size + 1 + 1) #[.int .i64 0, .slice none 0 0] 33) := R2.out.later hb3
    have B3 : Hid (Below w.heap.size w w3) := bto B2.out hb3
    have y0 : w3.cell? ⟨w.heap.size + 1 + 1, 0, none⟩ = some (.int .i64 0) := R3.out.cell 0
    have y1 : w3.cell? ⟨w.heap.size + 1 + 1, 1, none⟩ = some (.slice none 0 0) := R3.out.cell 1
    have f0 := R3.out.free 0
    have f1 := R3.out.free 1
    have hwl : w.heap.size + 1 + 1 < w3.heap.size := lt_of_block R3.out
    have hw2 : w.heap.size + 1 + 1 < w2.heap.size := lt_of_block R2.out
    clear ho3 hb3
    go_wp2
    have HTE : Turn (· = w.heap.size + 1 + 1) w3 ((w3.setCell ⟨w.heap.size + 1 + 1, 0, none⟩ (.int .i64 now)).setCell ⟨w.heap.size + 1 + 1, 1, none⟩ (.slice ra R.1.length rc)) := ((Turn.refl (· = w.heap.size + 1 + 1) w3).setCell (Or.inl rfl) 0 _).setCell (Or.inl rfl) 1 _
    refine bodyPost_ret (v := .tuple #[.agg #[.int .i64 now, .slice ra R.1.length rc], .bool R.2]) (by simp [results, Tryz.results16, go_sem, y0, y1]) rfl ?_
    rw [HV.out]
    have ho : TensOwn ((w3.setCell ⟨w.heap.size + 1 + 1, 0, none⟩ (.int .i64 now)).setCell ⟨w.heap.size + 1 + 1, 1, none⟩ (.slice ra R.1.length rc)) w.heap.size ra R.1 := (TensOwn.turned HO3.out HTE (fun g h1 h2 e => by omega)).mono (by omega)
    have hbe : Below w.heap.size w ((w3.setCell ⟨w.heap.size + 1 + 1, 0, none⟩ (.int .i64 now)).setCell ⟨w.heap.size + 1 + 1, 1, none⟩ (.slice ra R.1.length rc)) := ((Turn.of (S := fun i => w.heap.size ≤ i) B3.out).trans' (HTE.mono fun i _ e => by omega)).below (Nat.le_refl _) fun i hi h => by omega
    first
      | exact ⟨ra, ⟨rc, rfl⟩, ho, hbe⟩
      | exact ⟨ra, rc, rfl, ho, hbe⟩
end Go.Proofs.YtojeemogabhaoaaGreatDoor
namespace Go.Proofs.YtojeemogabhaoaaGreatDoor
open Go.RowKit
theorem names_ne {c : CfgD} {now : Int} {ts : List TenD} (h : stateB c now ts = true) : ∀ p ∈ ts, p.name ≠ ⟨#[]⟩ := fun p hp e => by
  have h1 := (ten_parts (tens_at (tens_of h).2.2.2.2 p hp)).1
  rw [e] at h1
  simp only [tnameB, Bool.and_eq_true, decide_eq_true_eq] at h1
  have h2 : (⟨#[]⟩ : ByteArray).size = 0 := rfl
  omega
theorem fitW_of {c : CfgD} {now : Int} {ts : List TenD} (h : stateB c now ts = true) (hb : ts.length + tensBulk ts ≤ 1048576) : ∀ x ∈ ts, FitW x := fun x hx => by
  obtain ⟨_, h0, h1, _, ht⟩ := tens_of h
  obtain ⟨_, _, _, h4, h5⟩ := fitS_of hb x hx
  refine ⟨by omega, by omega, fun i hi => ?_⟩
  have := sers_at (ten_parts (tens_at ht x hx)).2.2.1 _ (List.getElem_mem hi)
  omega
theorem same_all {c : CfgD} {now : Int} {ts : List TenD} (h : stateB c now ts = true) : keptTs c.w now (wAll ⟨⟨#[]⟩, 0, [], []⟩ true ts) = ts := by
  rw [wAll_placed (t := ⟨⟨#[]⟩, 0, [], []⟩) (names_ne h)]
  exact keptTs_same (tens_of h).2.2.2.2
set_option maxRecDepth 100000 in
set_option maxHeartbeats 2000000 in
theorem l4Same_any (c : CfgD) (now : Int) (a : Option Addr) (cap : Nat) (ts : List TenD) (w : World) (hf : TensIn w a ts) (hst : stateB c now ts = true) (hb : ts.length + tensBulk ts ≤ 1048576) :
    Calls Tryz.prog 39 #[cfgV c, .agg #[.int .i64 now, .slice a ts.length cap]] w fun e w' => ∃ a' cap', e = .returned (.agg #[.int .i64 now, .slice a' ts.length cap']) ∧ TensOwn w' w.heap.size a' ts ∧ Below w.heap.size w w' := by
  obtain ⟨_, hn0, hn1, _, _⟩ := tens_of hst
  have HW : Hid (∀ W, Below w.heap.size w W → Calls Tryz.prog 41 #[cfgV c, .agg #[.int .i64 now, .slice a ts.length cap], .int .i64 now, .agg #[.string ⟨#[]⟩, .int .i64 0, .slice none 0 0, .slice none 0 0]] W fun e w' => ∃ a' cap', e = .returned (.agg #[.int .i64 now, .slice a' ts.length cap']) ∧ TensOwn w' W.heap.size a' ts ∧ Below W.heap.size W w') := fun W hW => by
    have := l4With_any c now now a cap ts ⟨⟨#[]⟩, 0, [], []⟩ none none 0 0 W (hf.later hW) (Or.inl rfl) (Or.inl rfl) (by omega) (fun x hx => by
      rcases hx with rfl | hx
      · exact ⟨Nat.zero_le _, Nat.zero_le _, fun i h => absurd h (by simp)⟩
      · exact fitW_of hst hb x hx) hn0 (by omega)
    have e : (⟨⟨#[]⟩, 0, [], []⟩ : TenD).name.toList.isEmpty = true := by kernel_rfl
    rw [e, same_all hst] at this
    exact this
  clear hf hst hb
  unfold cfgV at *
  go_enter Tryz.func39, Tryz.ntmps39
  have B1 : Hid (Below w.heap.size w (((w.alloc (.cells #[.int .i64 c.w, .int .i64 c.tl, .int .i64 c.ml, .int .i64 c.sh, .int .i64 c.ha, .int .i64 c.sg] 29)).alloc (.cells #[.int .i64 now, .slice a ts.length cap] 33)).alloc (.cells #[.int .i64 0, .slice none 0 0] 33))) := bto (bto (bnew _ _) (bnew _ _)) (bnew _ _)
  have R1 : Hid (Blk (((w.alloc (.cells #[.int .i64 c.w, .int .i64 c.tl, .int .i64 c.ml, .int .i64 c.sh, .int .i64 c.ha, .int .i64 c.sg] 29)).alloc (.cells #[.int .i64 now, .slice a ts.length cap] 33)).alloc (.cells #[.int .i64 0, .slice none 0 0] 33)) (w.heap.size + 1 + 1) #[.int .i64 0, .slice none 0 0] 33) := hid (by have := Blk.new ((w.alloc (.cells #[.int .i64 c.w, .int .i64 c.tl, .int .i64 c.ml, .int .i64 c.sh, .int .i64 c.ha, .int .i64 c.sg] 29)).alloc (.cells #[.int .i64 now, .slice a ts.length cap] 33)) #[.int .i64 0, .slice none 0 0] 33; simpa using this)
  go_wp2_with fail
  refine (HW.out _ B1.out).mono ?_
  rintro e w3 ⟨ra, rc, rfl, ho3, hb3⟩
  have HO3 : Hid (TensOwn w3 (w.heap.size + 1 + 1 + 1) ra ts) := hid (by simpa using ho3)
  have R3 : Hid (Blk w3 (w.heap.size + 1 + 1) #[.int .i64 0, .slice none 0 0] 33) := R1.out.later hb3
  have B3 : Hid (Below w.heap.size w w3) := bto B1.out hb3
  have y0 : w3.cell? ⟨w.heap.size + 1 + 1, 0, none⟩ = some (.int .i64 0) := R3.out.cell 0
  have y1 : w3.cell? ⟨w.heap.size + 1 + 1, 1, none⟩ = some (.slice none 0 0) := R3.out.cell 1
  have f0 := R3.out.free 0
  have f1 := R3.out.free 1
  have hwl : w.heap.size + 1 + 1 < w3.heap.size := lt_of_block R3.out
  clear ho3 hb3
  go_wp2
  have HTE : Turn (· = w.heap.size + 1 + 1) w3 ((w3.setCell ⟨w.heap.size + 1 + 1, 0, none⟩ (.int .i64 now)).setCell ⟨w.heap.size + 1 + 1, 1, none⟩ (.slice ra ts.length rc)) := ((Turn.refl (· = w.heap.size + 1 + 1) w3).setCell (Or.inl rfl) 0 _).setCell (Or.inl rfl) 1 _
  have ho : TensOwn ((w3.setCell ⟨w.heap.size + 1 + 1, 0, none⟩ (.int .i64 now)).setCell ⟨w.heap.size + 1 + 1, 1, none⟩ (.slice ra ts.length rc)) w.heap.size ra ts := (TensOwn.turned HO3.out HTE (fun g h1 h2 e => by omega)).mono (by omega)
  have hbe : Below w.heap.size w ((w3.setCell ⟨w.heap.size + 1 + 1, 0, none⟩ (.int .i64 now)).setCell ⟨w.heap.size + 1 + 1, 1, none⟩ (.slice ra ts.length rc)) := ((Turn.of (S := fun i => w.heap.size ≤ i) B3.out).trans' (HTE.mono fun i _ e => by omega)).below (Nat.le_refl _) fun i hi h => by omega
  refine bodyPost_ret (v := .agg #[.int .i64 now, .slice ra ts.length rc]) (by simp [results, Tryz.results39, go_sem, y0, y1]) rfl ?_
  first
    | exact ⟨ra, ⟨rc, rfl⟩, ho, hbe⟩
    | exact ⟨ra, rc, rfl, ho, hbe⟩
end Go.Proofs.YtojeemogabhaoaaGreatDoor
namespace Go.Proofs.YtojeemogabhaoaaGreatDoor
open Go.RowKit
def KX (w2 : World) (X : Nat) (K : TenD) (wx : World) : Prop :=
  ∃ q1 e1 q2 e2, Blk wx X #[.string K.name, .int .i64 K.limit, .slice q1 K.mets.length e1, .slice q2 K.sers.length e2] 55 ∧ (∀ W, Turn (· = X) wx W → PairsIn W q1 K.mets ∧ PairsIn W q2 K.sers) ∧ w2.heap.size ≤ X ∧ Below w2.heap.size w2 wx
theorem own_turn {w W : World} {B X : Nat} {q : Option Addr} {ps : List PairD} (h : PairsOwn w B q ps) (ht : Turn (· = X) w W) (hX : X < B ∨ w.heap.size ≤ X) : PairsIn W q ps := by
  rcases h with h | ⟨g, o, cur, t, rfl, hB, hg, h⟩
  · exact Or.inl h
  · have hlt := lt_of_block hg
    have hk := ht.block g hlt (by omega)
    have hc : ∀ j, W.cell? ⟨g, j, none⟩ = w.cell? ⟨g, j, none⟩ := fun j => World.cell?_of_block hk
    exact Or.inr ⟨g, o, rfl, by have := ht.size; omega, fun i hi => by simp only [hc]; exact h i hi⟩
theorem kx_new {w2 w4 : World} {K : TenD} {B M : Nat} {q1 q2 : Option Addr} {e1 e2 : Nat} (h1 : PairsOwn w4 B q1 K.mets) (h2 : PairsOwn w4 M q2 K.sers) (hb : Below w2.heap.size w2 w4) :
    KX w2 w4.heap.size K (w4.alloc (.cells #[.string K.name, .int .i64 K.limit, .slice q1 K.mets.length e1, .slice q2 K.sers.length e2] 55)) := by
  refine ⟨q1, e1, q2, e2, Blk.new _ _ _, fun W ht => ?_, hb.size, bto hb (bnew _ _)⟩
  have t2 : Turn (· = w4.heap.size) w4 W := (Turn.of (bnew _ _)).trans' ht
  exact ⟨own_turn h1 t2 (Or.inr (Nat.le_refl _)), own_turn h2 t2 (Or.inr (Nat.le_refl _))⟩
theorem kx_old {w2 w4 : World} {K : TenD} {B M X : Nat} {q1 q2 : Option Addr} {e1 e2 : Nat} (h1 : PairsOwn w4 B q1 K.mets) (h2 : PairsOwn w4 M q2 K.sers) (hX : X < B) (hM : B ≤ M) (hx : w2.heap.size ≤ X) (hbx : Blk w4 X #[.string ⟨#[]⟩, .int .i64 0, .slice none 0 0, .slice none 0 0] 55) (hb : Below w2.heap.size w2 w4) :
    KX w2 X K ((((w4.setCell ⟨X, 0, none⟩ (.string K.name)).setCell ⟨X, 1, none⟩ (.int .i64 K.limit)).setCell ⟨X, 2, none⟩ (.slice q1 K.mets.length e1)).setCell ⟨X, 3, none⟩ (.slice q2 K.sers.length e2)) := by
  have ht : Turn (· = X) w4 ((((w4.setCell ⟨X, 0, none⟩ (.string K.name)).setCell ⟨X, 1, none⟩ (.int .i64 K.limit)).setCell ⟨X, 2, none⟩ (.slice q1 K.mets.length e1)).setCell ⟨X, 3, none⟩ (.slice q2 K.sers.length e2)) := ((((Turn.refl (· = X) w4).setCell (Or.inl rfl) 0 _).setCell (Or.inl rfl) 1 _).setCell (Or.inl rfl) 2 _).setCell (Or.inl rfl) 3 _
  refine ⟨q1, e1, q2, e2, ?_, fun W h => ⟨own_turn h1 (ht.trans' h) (Or.inl hX), own_turn h2 (ht.trans' h) (Or.inl (by omega))⟩, hx, set4 hb hx⟩
  have := (((hbx.set 0 (.string K.name)).set 1 (.int .i64 K.limit)).set 2 (.slice q1 K.mets.length e1)).set 3 (.slice q2 K.sers.length e2)
  simpa using this
end Go.Proofs.YtojeemogabhaoaaGreatDoor
namespace Go.Proofs.YtojeemogabhaoaaGreatDoor
def pStep (t : PairD) (s : List PairD × Bool) (p : PairD) : List PairD × Bool :=
  (s.1 ++ (if s.2 = true then [] else if blt p.s t.s = true then [] else [t]) ++ (if (p.s.toList == t.s.toList) = true then [] else [p]), if s.2 = true then true else !blt p.s t.s)
def pUpto (t : PairD) (b : Bool) (ps : List PairD) : List PairD × Bool := ps.foldl (pStep t) ([], b)
def pAll (t : PairD) (b : Bool) (ps : List PairD) : List PairD := (pUpto t b ps).1 ++ if (pUpto t b ps).2 = true then [] else [t]
theorem pUpto_take (t : PairD) (b : Bool) (ps : List PairD) (k : Nat) (h : k < ps.length) : pUpto t b (ps.take (k + 1)) = pStep t (pUpto t b (ps.take k)) ps[k] := by
  rw [List.take_succ_eq_append_getElem h, pUpto, List.foldl_append]; rfl
theorem pUpto_acc (t : PairD) (ps : List PairD) : ∀ (acc : List PairD) (b : Bool), ps.foldl (pStep t) (acc, b) = (acc ++ (ps.foldl (pStep t) ([], b)).1, (ps.foldl (pStep t) ([], b)).2) := by
  induction ps with
  | nil => intro acc b; simp
  | cons p r ih =>
    intro acc b
    simp only [List.foldl_cons]
    rw [ih (pStep t (acc, b) p).1 (pStep t (acc, b) p).2, ih (pStep t ([], b) p).1 (pStep t ([], b) p).2]
    simp [pStep]
theorem pAll_cons (t p : PairD) (r : List PairD) (b : Bool) : pAll t b (p :: r) = (pStep t ([], b) p).1 ++ pAll t (pStep t ([], b) p).2 r := by
  unfold pAll pUpto
  rw [List.foldl_cons, pUpto_acc t r (pStep t ([], b) p).1 (pStep t ([], b) p).2]
  simp
theorem pAll_placed (t : PairD) (ps : List PairD) : pAll t true ps = delBy (·.s) t.s ps := by
  induction ps with
  | nil => rfl
  | cons p r ih =>
    rw [pAll_cons]
    by_cases h1 : (p.s.toList == t.s.toList) = true
    · simp only [pStep, h1, if_true, List.nil_append, ih]
      unfold delBy
      rw [List.filter_cons_of_neg (by rw [h1]; simp)]
    · have h1' : (p.s.toList == t.s.toList) = false := by simpa using h1
      simp only [pStep, h1', if_true, List.nil_append, ih]
      unfold delBy
      rw [List.filter_cons_of_pos (by rw [h1']; rfl)]
      rfl
theorem pAll_ins {t : PairD} {ps : List PairD} (hr : RiseBy (·.s) ps) : pAll t false ps = insBy (·.s) t ps := by
  induction ps with
  | nil => rfl
  | cons p r ih =>
    have ihr := ih hr.tail
    rw [pAll_cons, insBy]
    by_cases h2 : blt p.s t.s = true
    · have h3 : (p.s.toList == t.s.toList) = false := same_not (blt_ne h2)
      simp only [pStep, h2, h3, if_true]
      simp [ihr]
    · have h2' : blt p.s t.s = false := by simpa using h2
      have hnone : ∀ q ∈ r, q.s ≠ t.s := fun q hq e => by
        have hb := hr.head q hq
        rw [e] at hb
        exact h2 hb
      have hdel : delBy (·.s) t.s r = r := List.filter_eq_self.2 fun q hq => by rw [same_not (hnone q hq)]; rfl
      by_cases h3 : p.s = t.s
      · have h4 : (p.s.toList == t.s.toList) = true := (same_iff _ _).2 h3
        simp only [pStep, h2', h4, if_true]
        simp [pAll_placed, hdel]
      · have h4 : (p.s.toList == t.s.toList) = false := same_not h3
        simp only [pStep, h2', h4]
        simp [pAll_placed, hdel]
theorem limT_all {t : TenD} {metric : ByteArray} {limit : Int} (hr : RiseBy (·.s) t.mets) (he : metric.toList.isEmpty = false) : limT t metric limit = ⟨t.name, t.limit, pAll ⟨metric, limit⟩ (decide (limit < 0)) t.mets, t.sers⟩ := by
  unfold limT
  rw [if_neg (by rw [he]; simp)]
  by_cases h : limit < 0
  · rw [if_pos h, decide_eq_true h, pAll_placed]
  · rw [if_neg h, decide_eq_false h, pAll_ins hr]
end Go.Proofs.YtojeemogabhaoaaGreatDoor
namespace Go.Proofs.YtojeemogabhaoaaGreatDoor
open Go.RowKit
theorem str_eq {x y : ByteArray} : (x.toList == y.toList) = true ↔ x = y := ⟨fun h => toList_inj (by simpa using h), fun h => by rw [h]; simp⟩
theorem str_ne {x y : ByteArray} : (x.toList == y.toList) = false ↔ x ≠ y := by rw [← Bool.not_eq_true, str_eq]
theorem str_nil {x : ByteArray} : x.toList.isEmpty = true ↔ x = ByteArray.empty := by
  rw [List.isEmpty_iff]
  constructor
  · intro h
    exact toList_inj (by rw [h, ByteArray.toList_eq]; rfl)
  · intro h
    rw [h, ByteArray.toList_eq]; rfl
theorem str_some {x : ByteArray} : x.toList.isEmpty = false ↔ x ≠ ByteArray.empty := by rw [← Bool.not_eq_true, str_nil]
end Go.Proofs.YtojeemogabhaoaaGreatDoor
